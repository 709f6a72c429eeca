import PyProof.Rows.All
import Wide.All
import OpenK.AllK
import Wide.FinOn
import Open.SpecLaws
import KE.OsGo
import HandS.ForSpec
import KE.OsArith
import HandS.ForMost
import HandS.Flow
import HandS.TupAny
import HandS.TupLen
import HandS.Conv
import HandS.SortInts
import HandS.WideBits
import HandS.Strs
import HandS.RaiseOp
import PyProof.AutoSeq1
import HandS.SetFor
import HandS.Iter
import HandS.Zip
import HandS.Dict
import HandS.Deep
import PyProof.MeetsSeq
import PyProof.EqAt
import HandS.TupLe
import PyProof.MinMaxWalk
import HandS.Walk
import HandS.SetBool
import HandS.DictTup
import KE.KSortTupAny
import HandS.SortKw
import PySem.Challenge.RW_netsunfolded_s01_answers
set_option Elab.async false
set_option maxRecDepth 100000
set_option maxHeartbeats 4000000
set_option linter.all false
/-! # NuR1 -/
section
set_option Elab.async false
set_option maxRecDepth 100000
set_option maxHeartbeats 4000000
namespace NuR
open PySem PySem.Spec PyProof.Rows L2
/-- xs.extend(t), t a tuple -/
theorem extend_tup (l : Addr) (its : Array Value) (n : Nat) (b : Addr) (jts : Array Value) (m : Nat) (dd : Option Addr) (sl : Array (Option Value)) (h0 : ¬(!its.isEmpty && Builtin.List.listTooLong (its.size + jts.size)) = true) (h1 : its.size ≤ sizeLine)
    (h2 : its.size + jts.size ≤ sizeLine + 1) :
    Meets (Builtin.«list.extend» ⟨[.ref l, .ref b], []⟩) (fun _ R s => s.heap.get? l = some { cls := .type "list", dict := none, data := .seq its n, slots := #[] } ∧ s.heap.get? b = some { cls := .type "tuple", dict := dd, data := .seq jts m, slots := sl } ∧
      R (.ok (.ret Value.none)) { s with heap := s.heap.update l (Obj.mapSeq fun x => x ++ jts), toks := s.toks }) :=
  .of_wp fun prog w A R s h => by
    obtain ⟨hp, gg, d, tk, os⟩ := s
    obtain ⟨hl, hb, h⟩ := h
    have f1 := AutoSeq1.sub_tuple_tuple
    have f2 := AutoSeq1.sub_list_list
    have f3 := AutoSeq1.sub_tuple_list
    have f4 := AutoSeq1.sub_list_tuple
    have hz : (its ++ jts).size ≤ sizeLine + 1 := by rw [Array.size_append]; exact h2
    wp_walk using (wpAny_updateSeq hl rfl (hz := h1) (_hz' := hz)), AutoSeq1.wpAny_loadPart' hl, AutoSeq1.wpAny_loadPart' hb
    exact ⟨_, rfl, h⟩
section
variable {X : Cx}
def rExtT (K : PySem.W.Frag) : V → List V → Hp → VK → Prop := fun x vs H Q => ∃ l b xs zs, x = .ref l ∧ vs = [.ref b] ∧ H l = some (.lst xs) ∧ SqT K H b zs ∧ xs.length + zs.length ≤ sizeLine ∧ Q .non (upd H l (.lst (xs ++ zs)))
theorem mt_extT : MtM X "list.extend" (rExtT X.K) := by
  intro pins s σ H x vs v us Q I rx rv h
  obtain ⟨l, b, xs, zs, rfl, rfl, hH, hB, hz, q⟩ := h
  cases rx
  obtain ⟨u, rfl, ru⟩ := rv.one
  cases ru
  obtain ⟨z1, it1, n1, r1, hl1, e1⟩ := I.lstM hH
  obtain ⟨it2, r2, ⟨⟨c2, d2, s2, sl2⟩, ho2, hc2, n2, hd2⟩, z2⟩ := I.tuple hB
  simp only at hc2 hd2
  subst hc2 hd2
  have hl2 := r2.length
  have hs : it1.toArray.size + it2.toArray.size ≤ sizeLine := by simp only [List.size_toArray]; omega
  have hd : ¬ (!it1.toArray.isEmpty && Builtin.List.listTooLong (it1.toArray.size + it2.toArray.size)) = true := by simp only [notLongL hs, Bool.and_false, Bool.false_eq_true, not_false_eq_true]
  refine call_meets F.slot_list_extend ⟨_, e1, rfl⟩ F.entry_list_extend (F.args_list_extend_2 _ _)
    (extend_tup l it1.toArray n1 b it2.toArray n2 d2 sl2 hd (by simp only [List.size_toArray]; omega) (by omega)) ⟨e1, ho2, ?_⟩
  exact ⟨.non, _, I.lset (its' := it1 ++ it2) hH e1 (by simp) (r1.append r2) (by rw [List.length_append]; omega), rfl, q⟩
end
end NuR
end
/-! # NuBase -/
section
namespace Nu
open Sq63

theorem mem_insert {x a : Nat} : ∀ {l : List Nat}, x ∈ Sq63.insert a l ↔ x = a ∨ x ∈ l
  | [] => by simp [Sq63.insert]
  | b :: l => by
    unfold Sq63.insert
    split
    · simp
    · split
      · next h => subst h; simp
      · simp only [List.mem_cons, mem_insert (l := l)]; grind
theorem insert_rise {a : Nat} : ∀ {l : List Nat}, l.Pairwise (· < ·) → (Sq63.insert a l).Pairwise (· < ·)
  | [], _ => by simp [Sq63.insert]
  | b :: l, h => by
    unfold Sq63.insert
    rw [List.pairwise_cons] at h
    split
    · next q =>
      simp only [List.pairwise_cons, List.mem_cons]
      refine ⟨?_, h.1, h.2⟩
      rintro c (rfl | hc)
      · exact q
      · exact Nat.lt_trans q (h.1 c hc)
    · split
      · exact List.pairwise_cons.mpr h
      · refine List.pairwise_cons.mpr ⟨?_, insert_rise h.2⟩
        intro c hc
        rcases mem_insert.mp hc with rfl | hc
        · omega
        · exact h.1 c hc
theorem mem_union {x : Nat} : ∀ {a b : List Nat}, x ∈ Sq63.union a b ↔ x ∈ a ∨ x ∈ b
  | [], b => by simp [Sq63.union]
  | p :: a, b => by
    have e : Sq63.union (p :: a) b = Sq63.union a (Sq63.insert p b) := rfl
    rw [e, mem_union, mem_insert, List.mem_cons]
    grind
theorem union_rise : ∀ {a b : List Nat}, b.Pairwise (· < ·) → (Sq63.union a b).Pairwise (· < ·)
  | [], _, h => h
  | p :: a, b, h => by
    have e : Sq63.union (p :: a) b = Sq63.union a (Sq63.insert p b) := rfl
    rw [e]
    exact union_rise (insert_rise h)
theorem rise_ext : ∀ {a b : List Nat}, a.Pairwise (· < ·) → b.Pairwise (· < ·) → (∀ x, x ∈ a ↔ x ∈ b) → a = b
  | [], [], _, _, _ => rfl
  | [], y :: b, _, _, h => by have := (h y).mpr (by simp); simp at this
  | x :: a, [], _, _, h => by have := (h x).mp (by simp); simp at this
  | x :: a, y :: b, ha, hb, h => by
    rw [List.pairwise_cons] at ha hb
    have hxy : x = y := by
      have h1 := (h x).mp (by simp)
      have h2 := (h y).mpr (by simp)
      simp only [List.mem_cons] at h1 h2
      rcases h1 with h1 | h1
      · exact h1
      · rcases h2 with h2 | h2
        · exact h2.symm
        · have := hb.1 x h1
          have := ha.1 y h2
          omega
    subst hxy
    refine congrArg _ (rise_ext ha.2 hb.2 fun z => ⟨fun hz => ?_, fun hz => ?_⟩)
    · have h1 := (h z).mp (List.mem_cons_of_mem _ hz)
      have := ha.1 z hz
      rcases List.mem_cons.mp h1 with h1 | h1
      · omega
      · exact h1
    · have h1 := (h z).mpr (List.mem_cons_of_mem _ hz)
      have := hb.1 z hz
      rcases List.mem_cons.mp h1 with h1 | h1
      · omega
      · exact h1
theorem rising_iff : ∀ {l : List Nat}, Sq63.rising l = true ↔ l.Pairwise (· < ·)
  | [] => by simp [Sq63.rising]
  | [a] => by simp [Sq63.rising]
  | a :: b :: l => by
    unfold Sq63.rising
    rw [Bool.and_eq_true, rising_iff (l := b :: l), decide_eq_true_iff]
    constructor
    · rintro ⟨h1, h2⟩
      refine List.pairwise_cons.mpr ⟨?_, h2⟩
      intro c hc
      rcases List.mem_cons.mp hc with rfl | hc
      · exact h1
      · exact Nat.lt_trans h1 ((List.pairwise_cons.mp h2).1 c hc)
    · intro h
      have := List.pairwise_cons.mp h
      exact ⟨this.1 b (by simp), this.2⟩
theorem placesOk_iff {n : Nat} {l : List Nat} : placesOk n l = true ↔ l.Pairwise (· < ·) ∧ ∀ p ∈ l, p < n := by
  unfold placesOk
  rw [Bool.and_eq_true, rising_iff, List.all_eq_true]
  simp
theorem rise_nodup {l : List Nat} (h : l.Pairwise (· < ·)) : l.Nodup := h.imp (fun h => by omega)
theorem meets_iff {a b : List Nat} : meets a b = true ↔ ∃ p, p ∈ a ∧ p ∈ b := by
  unfold meets
  simp
theorem within_iff {a b : List Nat} : within a b = true ↔ ∀ p, p ∈ a → p ∈ b := by
  unfold within
  simp
/-- a fold of inserts -/
theorem mem_ins_fold {f : Nat → Nat} {x : Nat} : ∀ {l s : List Nat}, x ∈ l.foldl (fun s c => Sq63.insert (f c) s) s ↔ x ∈ s ∨ ∃ c, c ∈ l ∧ f c = x
  | [], s => by simp
  | a :: l, s => by
    rw [List.foldl_cons, mem_ins_fold, mem_insert]
    grind
theorem ins_fold_rise {f : Nat → Nat} : ∀ {l s : List Nat}, s.Pairwise (· < ·) → (l.foldl (fun s c => Sq63.insert (f c) s) s).Pairwise (· < ·)
  | [], _, h => h
  | a :: l, s, h => ins_fold_rise (l := l) (insert_rise h)
/-- a fold of unions -/
theorem mem_un_fold {f : Nat → List Nat} {x : Nat} : ∀ {l s : List Nat}, x ∈ l.foldl (fun s c => Sq63.union (f c) s) s ↔ x ∈ s ∨ ∃ c, c ∈ l ∧ x ∈ f c
  | [], s => by simp
  | a :: l, s => by
    rw [List.foldl_cons, mem_un_fold, mem_union]
    grind
theorem un_fold_rise {f : Nat → List Nat} : ∀ {l s : List Nat}, s.Pairwise (· < ·) → (l.foldl (fun s c => Sq63.union (f c) s) s).Pairwise (· < ·)
  | [], _, h => h
  | a :: l, s, h => un_fold_rise (l := l) (union_rise h)
/-- strictly sorted lists of Nat: order of rows -/
theorem before_irrefl : ∀ (l : List Nat), before l l = false
  | [] => rfl
  | a :: l => by simp [before, before_irrefl l]
theorem before_trans : ∀ {a b c : List Nat}, before a b = true → before b c = true → before a c = true
  | [], b, c, h1, h2 => by
    cases b with
    | nil => simp [before] at h1
    | cons y b => cases c with
      | nil => simp [before] at h2
      | cons z c => rfl
  | x :: a, b, c, h1, h2 => by
    cases b with
    | nil => simp [before] at h1
    | cons y b => cases c with
      | nil => simp [before] at h2
      | cons z c =>
        simp only [before, Bool.or_eq_true, Bool.and_eq_true, decide_eq_true_eq, beq_iff_eq] at h1 h2 ⊢
        rcases h1 with h1 | ⟨h1, h1'⟩
        · rcases h2 with h2 | ⟨h2, h2'⟩ <;> left <;> omega
        · rcases h2 with h2 | ⟨h2, h2'⟩
          · left; omega
          · right; exact ⟨by omega, before_trans h1' h2'⟩
theorem before_total : ∀ (a b : List Nat), before a b = true ∨ a = b ∨ before b a = true
  | [], [] => Or.inr (Or.inl rfl)
  | [], y :: b => Or.inl rfl
  | x :: a, [] => Or.inr (Or.inr rfl)
  | x :: a, y :: b => by
    simp only [before, Bool.or_eq_true, Bool.and_eq_true, decide_eq_true_eq, beq_iff_eq, List.cons.injEq]
    rcases before_total a b with h | h | h <;> grind
theorem before_asymm {a b : List Nat} (h : before a b = true) : before b a = false := by
  cases e : before b a with
  | false => rfl
  | true => have := before_trans h e; rw [before_irrefl] at this; cases this
end Nu
end
/-! # NuReach -/
section
set_option linter.all false
namespace Nu
open Sq63

theorem nodup_sub_len {α : Type} [DecidableEq α] : ∀ {l L : List α}, l.Nodup → (∀ x, x ∈ l → x ∈ L) → l.length ≤ L.length
  | [], L, _, _ => by simp
  | x :: l, L, h, hs => by
    rw [List.nodup_cons] at h
    have hx : x ∈ L := hs x (by simp)
    have h1 : l.length ≤ (L.erase x).length := nodup_sub_len h.2 fun y hy => by
      have : y ≠ x := by rintro rfl; exact h.1 hy
      exact (List.mem_erase_of_ne this).mpr (hs y (List.mem_cons_of_mem _ hy))
    rw [List.length_erase_of_mem hx] at h1
    have : 0 < L.length := List.length_pos_of_mem hx
    simp only [List.length_cons]
    omega

inductive Reach (g : Net) (m0 : Places) : Places → Prop
  | base : Reach g m0 m0
  | step {m : Places} {t : Transition} : Reach g m0 m → t ∈ g.ts → may t m = true → Reach g m0 (fired t m)

/-- no place comes to have two tokens -/
def Safe (g : Net) (m0 : Places) : Prop := ∀ m t, Reach g m0 m → t ∈ g.ts → may t m = true → safe t m = true

/-- all that's come to, listed -/
structure Bounded (g : Net) (m0 : Places) : Prop where
  safe : Safe g m0
  few : ∃ L : List Places, L.length ≤ 128 ∧ ∀ m, Reach g m0 m → m ∈ L

/-- a fold that adds what isn't there -/
def addNew (s : List Places) (m : Places) : List Places := if s.contains m then s else s ++ [m]
theorem addNew_nodup {s : List Places} {m : Places} (h : s.Nodup) : (addNew s m).Nodup := by
  unfold addNew
  split
  · exact h
  · next q =>
    rw [List.nodup_append]
    refine ⟨h, by simp, ?_⟩
    intro a ha b hb
    rw [List.mem_singleton] at hb
    subst hb
    rintro rfl
    exact q (by simpa using ha)
theorem mem_addNew {s : List Places} {m x : Places} : x ∈ addNew s m ↔ x ∈ s ∨ x = m := by
  unfold addNew
  split
  · next q =>
    have : m ∈ s := by simpa using q
    grind
  · simp
theorem fold_new : ∀ (ms s : List Places), s.Nodup → (ms.foldl addNew s).Nodup ∧ (∀ x, x ∈ ms.foldl addNew s ↔ x ∈ s ∨ x ∈ ms) ∧ ∃ r, ms.foldl addNew s = s ++ r
  | [], s, h => ⟨h, by simp, [], by simp⟩
  | m :: ms, s, h => by
    obtain ⟨h1, h2, r, h3⟩ := fold_new ms (addNew s m) (addNew_nodup h)
    refine ⟨h1, fun x => ?_, ?_⟩
    · rw [List.foldl_cons, h2, mem_addNew]; grind
    · rw [List.foldl_cons, h3]
      unfold addNew
      split
      · exact ⟨r, rfl⟩
      · exact ⟨m :: r, by simp⟩

def succs (g : Net) (l : List Places) : List Places := l.flatMap fun m => (g.ts.filter fun t => may t m).map fun t => fired t m
theorem mem_succs {g : Net} {l : List Places} {x : Places} : x ∈ succs g l ↔ ∃ m, m ∈ l ∧ ∃ t, t ∈ g.ts ∧ may t m = true ∧ fired t m = x := by
  unfold succs
  simp only [List.mem_flatMap, List.mem_map, List.mem_filter]
  grind
theorem all_succ (g : Net) (f : Nat) (l : List Places) : g.all (f + 1) l = if (l.any fun m => g.ts.any fun t => may t m && !safe t m) = true then none else
    if MARKINGS < ((succs g l).foldl addNew l).length then none else if ((succs g l).foldl addNew l).length = l.length then some l else g.all f ((succs g l).foldl addNew l) := rfl

theorem all_some {g : Net} {m0 : Places} : ∀ (f : Nat) (l r : List Places), l.Nodup → m0 ∈ l → (∀ m, m ∈ l → Reach g m0 m) → l.length ≤ 128 → g.all f l = some r → Bounded g m0
  | 0, l, r, _, _, _, _, h => by simp [Net.all] at h
  | f + 1, l, r, h1, h2, h3, h4, h => by
    rw [all_succ] at h
    split at h
    · cases h
    · next hs =>
      obtain ⟨n1, n2, q, n3⟩ := fold_new (succs g l) l h1
      split at h
      · cases h
      · next hk =>
        split at h
        · next he =>
          have eq : (succs g l).foldl addNew l = l := by
            rw [n3] at he ⊢
            rw [List.length_append] at he
            have : q = [] := List.eq_nil_of_length_eq_zero (by omega)
            rw [this, List.append_nil]
          have cl : ∀ m, Reach g m0 m → m ∈ l := by
            intro m hm
            induction hm with
            | base => exact h2
            | step hm ht hy ih => 
              rw [← eq, n2]
              exact Or.inr (mem_succs.mpr ⟨_, ih, _, ht, hy, rfl⟩)
          refine ⟨fun m t hm ht hy => ?_, l, h4, cl⟩
          cases e : safe t m with
          | true => rfl
          | false =>
            exfalso
            apply hs
            simp only [List.any_eq_true]
            exact ⟨m, cl m hm, t, ht, by simp [hy, e]⟩
        · refine all_some f _ r n1 ((n2 m0).mpr (Or.inl h2)) ?_ (by unfold MARKINGS at hk; omega) h
          intro m hm
          rcases (n2 m).mp hm with hm | hm
          · exact h3 m hm
          · obtain ⟨m', h1', t, ht, hy, rfl⟩ := mem_succs.mp hm
            exact Reach.step (h3 m' h1') ht hy
theorem all_none {g : Net} {m0 : Places} (hb : Bounded g m0) : ∀ (f : Nat) (l : List Places), l.Nodup → (∀ m, m ∈ l → Reach g m0 m) → 129 < f + l.length → ∃ r, g.all f l = some r
  | 0, l, h1, h3, h4 => by
    obtain ⟨L, hl, hL⟩ := hb.few
    have := nodup_sub_len h1 fun m hm => hL m (h3 m hm)
    omega
  | f + 1, l, h1, h3, h4 => by
    rw [all_succ]
    obtain ⟨n1, n2, q, n3⟩ := fold_new (succs g l) l h1
    have hr : ∀ m, m ∈ (succs g l).foldl addNew l → Reach g m0 m := by
      intro m hm
      rcases (n2 m).mp hm with hm | hm
      · exact h3 m hm
      · obtain ⟨m', h1', t, ht, hy, rfl⟩ := mem_succs.mp hm
        exact Reach.step (h3 m' h1') ht hy
    obtain ⟨L, hl, hL⟩ := hb.few
    have hk := nodup_sub_len n1 fun m hm => hL m (hr m hm)
    rw [if_neg, if_neg (by unfold MARKINGS; omega)]
    · split
      · exact ⟨_, rfl⟩
      · next hne =>
        refine all_none hb f _ n1 hr ?_
        rw [n3] at hne ⊢
        rw [List.length_append] at hne ⊢
        omega
    · simp only [List.any_eq_true, not_exists, not_and]
      intro m hm t ht h
      rw [Bool.and_eq_true] at h
      have := hb.safe m t (h3 m hm) ht h.1
      rw [this] at h
      simp at h
theorem reach_iff {g : Net} {m0 : Places} : (∃ r, g.reach m0 = some r) ↔ Bounded g m0 := by
  constructor
  · rintro ⟨r, h⟩
    exact all_some _ [m0] r (by simp) (by simp) (fun m hm => by rw [List.mem_singleton] at hm; rw [hm]; exact .base) (by simp) h
  · intro h
    exact all_none h _ [m0] (by simp) (fun m hm => by rw [List.mem_singleton] at hm; rw [hm]; exact .base) (by simp [MARKINGS])

/-! the program's way: a stack -/
/-- what holds between two turns: K is come to, W of it waits -/
structure Stack (g : Net) (m0 : Places) (K W : List Places) : Prop where
  nd : K.Nodup
  zero : m0 ∈ K
  sub : ∀ m, m ∈ W → m ∈ K
  rch : ∀ m, m ∈ K → Reach g m0 m
  shut : ∀ m, m ∈ K → m ∉ W → ∀ t, t ∈ g.ts → may t m = true → safe t m = true ∧ fired t m ∈ K
theorem Stack.start {g : Net} {m0 : Places} : Stack g m0 [m0] [m0] := ⟨by simp, by simp, by simp, by rintro m hm; rw [List.mem_singleton] at hm; rw [hm]; exact .base, by intro m h1 h2; exact absurd h1 h2⟩
theorem Stack.done {g : Net} {m0 : Places} {K : List Places} (h : Stack g m0 K []) (hk : K.length ≤ 128) : Bounded g m0 := by
  have cl : ∀ m, Reach g m0 m → m ∈ K := by
    intro m hm
    induction hm with
    | base => exact h.zero
    | step hm ht hy ih => exact (h.shut _ ih (by simp) _ ht hy).2
  exact ⟨fun m t hm ht hy => (h.shut m (cl m hm) (by simp) t ht hy).1, K, hk, cl⟩
/-- m is taken off; its first j transitions are gone through -/
structure Turn (g : Net) (m0 : Places) (m : Places) (j : Nat) (K W : List Places) : Prop where
  nd : K.Nodup
  zero : m0 ∈ K
  sub : ∀ x, x ∈ W → x ∈ K
  rch : ∀ x, x ∈ K → Reach g m0 x
  mem : m ∈ K
  shut : ∀ x, x ∈ K → x ∉ W → x ≠ m → ∀ t, t ∈ g.ts → may t x = true → safe t x = true ∧ fired t x ∈ K
  part : ∀ i t, i < j → g.ts[i]? = some t → may t m = true → safe t m = true ∧ fired t m ∈ K
theorem Stack.pop {g : Net} {m0 m : Places} {K W : List Places} (h : Stack g m0 K (W ++ [m])) : Turn g m0 m 0 K W :=
  ⟨h.nd, h.zero, fun x hx => h.sub x (by simp [hx]), h.rch, h.sub m (by simp), fun x hx hw hm => h.shut x hx (by simp [hw, hm]), fun i t hi => absurd hi (by omega)⟩
theorem Turn.skip {g : Net} {m0 m : Places} {j : Nat} {K W : List Places} {t : Transition} (h : Turn g m0 m j K W) (ht : g.ts[j]? = some t) (hm : may t m = false) : Turn g m0 m (j + 1) K W :=
  ⟨h.nd, h.zero, h.sub, h.rch, h.mem, h.shut, fun i t' hi ht' hy => by
      rcases Nat.lt_succ_iff_lt_or_eq.mp hi with hi | rfl
      · exact h.part i t' hi ht' hy
      · rw [ht] at ht'; cases ht'; rw [hm] at hy; cases hy⟩
theorem Turn.seen {g : Net} {m0 m : Places} {j : Nat} {K W : List Places} {t : Transition} (h : Turn g m0 m j K W) (ht : g.ts[j]? = some t) (hs : safe t m = true) (hk : fired t m ∈ K) : Turn g m0 m (j + 1) K W :=
  ⟨h.nd, h.zero, h.sub, h.rch, h.mem, h.shut, fun i t' hi ht' hy => by
      rcases Nat.lt_succ_iff_lt_or_eq.mp hi with hi | rfl
      · exact h.part i t' hi ht' hy
      · rw [ht] at ht'; cases ht'; exact ⟨hs, hk⟩⟩
theorem Turn.new {g : Net} {m0 m : Places} {j : Nat} {K W : List Places} {t : Transition} (h : Turn g m0 m j K W) (ht : g.ts[j]? = some t) (hm : may t m = true) (hs : safe t m = true) (hk : fired t m ∉ K) :
    Turn g m0 m (j + 1) (K ++ [fired t m]) (W ++ [fired t m]) where
  nd := by
    rw [List.nodup_append]
    refine ⟨h.nd, by simp, ?_⟩
    intro a ha b hb
    rw [List.mem_singleton] at hb
    subst hb
    rintro rfl
    exact hk ha
  zero := by simp [h.zero]
  sub := fun x hx => by
    rcases List.mem_append.mp hx with hx | hx
    · exact List.mem_append_left _ (h.sub x hx)
    · exact List.mem_append_right _ hx
  rch := fun x hx => by
    rcases List.mem_append.mp hx with hx | hx
    · exact h.rch x hx
    · rw [List.mem_singleton] at hx
      rw [hx]
      exact .step (h.rch m h.mem) (List.mem_of_getElem? ht) hm
  mem := by simp [h.mem]
  shut := fun x hx hw hne t' ht' hy => by
    rcases List.mem_append.mp hx with hx | hx
    · have := h.shut x hx (fun q => hw (List.mem_append_left _ q)) hne t' ht' hy
      exact ⟨this.1, List.mem_append_left _ this.2⟩
    · exact absurd (List.mem_append_right _ hx) hw
  part := fun i t' hi ht' hy => by
    rcases Nat.lt_succ_iff_lt_or_eq.mp hi with hi | rfl
    · have := h.part i t' hi ht' hy
      exact ⟨this.1, List.mem_append_left _ this.2⟩
    · rw [ht] at ht'; cases ht'; exact ⟨hs, by simp⟩
theorem Turn.done {g : Net} {m0 m : Places} {K W : List Places} (h : Turn g m0 m g.ts.length K W) : Stack g m0 K W :=
  ⟨h.nd, h.zero, h.sub, h.rch, fun x hx hw t ht hy => by
    by_cases e : x = m
    · subst e
      obtain ⟨i, hi, e⟩ := List.mem_iff_getElem.mp ht
      exact h.part i t hi (by rw [List.getElem?_eq_getElem hi, e]) hy
    · exact h.shut x hx hw e t ht hy⟩
theorem Turn.unsafe_ {g : Net} {m0 m : Places} {j : Nat} {K W : List Places} {t : Transition} (h : Turn g m0 m j K W) (ht : g.ts[j]? = some t) (hm : may t m = true) (hs : safe t m = false) : ¬ Bounded g m0 := fun b => by
  have := b.safe m t (h.rch m h.mem) (List.mem_of_getElem? ht) hm
  rw [hs] at this
  cases this
theorem Stack.over {g : Net} {m0 : Places} {K W : List Places} (h : Stack g m0 K W) (hk : 128 < K.length) : ¬ Bounded g m0 := fun b => by
  obtain ⟨L, hl, hL⟩ := b.few
  have := nodup_sub_len h.nd fun m hm => hL m (h.rch m hm)
  omega
end Nu
end
/-! # NuR2 -/
section
set_option Elab.async false
set_option maxRecDepth 100000
set_option maxHeartbeats 4000000
namespace NuR
open PySem PySem.Spec PyProof.Rows L2
/-- the set as it is made -/
abbrev mt (w : World) : Obj := { cls := .type "set", dict := none, data := .set #[] 0 (.fresh 0 0 (!w.params.followText "set-order")) }
section
variable {P : Program} {w : World} {A : Around} {E : Value → Shared → Prop} {s : Shared}
/-- set(xs), xs a list of whole numbers: the filling -/
theorem fill_list {l : Addr} {items : Array Value} (ns : List Int) (free : A.handled = none) (hl : s.heap.IsList l items) (hit : IntsAre items.toList ns) (hb : ns.length + 1 < scanBound) :
    wpAny (model P w) A.in1.in1 (Builtin.«set.__init__» ⟨[.ref s.heap.objs.size, .ref l], []⟩) (fun f s2 => ∃ r, f = .done (.ret r) ∧ r = .none ∧ ∃ h' tk c, s2 = { s with heap := h', toks := tk } ∧
      SetR w h' s.heap.objs.size (fun j => decide (j ∈ ns)) c ∧ c ≤ ns.length ∧ ∀ b o, s.heap.get? b = some o → h'.get? b = some o) E { s with heap := s.heap.push (mt w) } := by
  have sz : items.size = ns.length := Array.length_toList.symm.trans (IntsAre.length hit)
  obtain ⟨⟨oc, od, oda, osl⟩, g0, c0, n0, d0⟩ := hl
  simp only at c0 d0
  subst c0 d0
  have l0 : l < s.heap.objs.size := Heap.lt_size g0
  have g1 : (s.heap.push (mt w)).get? l = some { cls := .type "list", dict := od, data := .seq items n0, slots := osl } := Heap.get?_push_of_some _ g0
  have gS : (s.heap.push (mt w)).get? s.heap.objs.size = some (mt w) := Heap.get?_push_size _ rfl
  have z1 : (s.heap.push (mt w)).objs.size = s.heap.objs.size + 1 := Heap.size_push ..
  have i1 : (s.heap.push (mt w)).IsList l items := ⟨_, g1, rfl, n0, rfl⟩
  have s1 := F.sub_list_set
  have s2 := F.sub_list_frozenset
  have s3 : (Value.type "list" == Value.type "dict") = false := by decide
  have free3 : A.in1.in1.in1.handled = none := by simp [free]
  unfold Builtin.«set.__init__» noKeywords Builtin.Frozenset.updateFrom
  generalize hPI : pyIter = PI
  wp_walk
  subst hPI
  refine wpAny_pyIter_list i1 (wpAny_bind (wpAny_runValue ?_))
  have a1 : l ≠ (s.heap.push (mt w)).objs.size := z1 ▸ Nat.ne_of_lt (Nat.lt_succ_of_lt l0)
  have a2 : s.heap.objs.size ∉ [(s.heap.push (mt w)).objs.size, l] := by simp only [z1, List.mem_cons, List.not_mem_nil, or_false, not_or]; exact ⟨Nat.ne_of_lt (Nat.lt_succ_self _), Nat.ne_of_gt l0⟩
  have vals : ∀ (i : Nat) (v : Value), items[i]? = some v → ∃ k t, ns[i]? = some k ∧ v = .int k t := fun i v hv => by
    have hi : i < ns.length := sz ▸ (Array.getElem?_eq_some_iff.mp hv).1
    obtain ⟨t, rfl⟩ := PyProof.Rows.IntsAre.int_at hit i v (by rw [Array.getElem?_toList, hv])
    exact ⟨ns[i], t, List.getElem?_eq_getElem hi, by simp [List.getD_eq_getElem?_getD, List.getElem?_eq_getElem hi]⟩
  refine set_update_ints ((Walks.list free3 _ l a1 items).toS) s.heap.objs.size a2 ns sz hb vals items.size 0 _ rfl (Nat.zero_le _) ⟨⟨_, Heap.get?_push_size _ rfl, rfl, rfl⟩, i1.push _⟩ ⟨0, Nat.le_refl 0, setR_new_at (Heap.get?_push_of_some _ gS)⟩ ?_
  rintro ⟨h', g2, d2, t2, o2⟩ c mv hc hS
  obtain rfl : g2 = s.gens := mv.gens
  obtain rfl : d2 = s.drawn := mv.drawn
  obtain rfl : o2 = s.os := mv.os
  refine wpAny_pure (show wpAny _ _ (ret Value.none) _ _ _ from wpAny_pure ⟨_, rfl, rfl, h', t2, c, rfl, hS, sz ▸ hc, fun b o e => ?_⟩)
  have b0 := Heap.lt_size e
  exact mv.heap b o (by simp only [z1, List.mem_cons, List.not_mem_nil, or_false, not_or]; exact ⟨Nat.ne_of_lt b0, Nat.ne_of_lt (Nat.lt_succ_of_lt b0)⟩) (Heap.get?_push_of_some _ (Heap.get?_push_of_some _ e))
set_option maxHeartbeats 8000000 in
theorem set_list {l : Addr} {items : Array Value} (ns : List Int) {Q : Value → Shared → Prop} (free : A.handled = none) (hl : s.heap.IsList l items) (hit : IntsAre items.toList ns) (hb : ns.length + 1 < scanBound)
    (h : ∀ (h' : Heap) (tk c : Nat), SetR w h' s.heap.objs.size (fun j => decide (j ∈ ns)) c → c ≤ ns.length → (∀ b o, s.heap.get? b = some o → h'.get? b = some o) → Q (.ref s.heap.objs.size) { s with heap := h', toks := tk }) :
    wpAny (model P w) A (call (.type "set") [.ref l]) Q E s := by
  obtain ⟨cc, tl, e1⟩ := F.called_set.mro
  have e2 := F.called_set.made
  have e3 := F.called_set.sub
  have e4 := F.called_set.notType
  have e5 := F.called_set.canCreate
  have e6 := F.typeCall_set_1 (.ref l)
  refine wpAny_call (codeAny_of_tree (show wpAny _ _ (callAny (.type "set") _) _ _ _ from wpAny_pure ⟨Code.quiet_builtin _ (by decide +kernel), codeAny_builtin F.entry_type_call ?_⟩))
  rw [Around.under_plain (weight_type_call_type "set" [.ref l] []) rfl]
  repeat (any_goals (first | assumption | wp_step))
  refine codeAny_mono (code_set_led1 (.ref l) (E := E) (Q₁ := fun obj s1 => obj = .ref s.heap.objs.size ∧ s1 = { s with heap := s.heap.push (mt w) }) ⟨rfl, rfl⟩) fun r s1 hr => ?_
  rcases r with e | fl
  · exact hr
  cases fl with
  | ret obj =>
    obtain ⟨rfl, rfl⟩ := hr
    have gS : (s.heap.push (mt w)).get? s.heap.objs.size = some (mt w) := Heap.get?_push_size _ rfl
    have tS : Shared.TypeIs { s with heap := s.heap.push (mt w) } (.ref s.heap.objs.size) "set" := ⟨_, gS, rfl⟩
    have e7 := F.called_set.init.lookup
    have e8 := F.called_set.init.bind (.ref s.heap.objs.size)
    repeat (any_goals (first | assumption | wp_step))
    refine codeAny_mono (codeAny_call_builtin (R := wants (fun r s2 => r = .none ∧ ∃ h' tk c, s2 = { s with heap := h', toks := tk } ∧ SetR w h' s.heap.objs.size (fun j => decide (j ∈ ns)) c ∧ c ≤ ns.length ∧
        ∀ b o, s.heap.get? b = some o → h'.get? b = some o) E) F.called_set.init.plain F.entry_set_init (check_set_init_1 tS ?_)) fun r2 s2 hr2 => ?_
    · exact wpAny_mono (fill_list ns free hl hit hb) (fun f s3 ⟨r, e, h3⟩ => by subst e; exact h3) fun _ _ q => q
    · rcases r2 with e | fl2
      · exact hr2
      cases fl2 with
      | ret r =>
        obtain ⟨rfl, h', tk, c', rfl, q1, q2, q3⟩ := hr2
        repeat (any_goals (first | assumption | wp_step))
        exact h _ _ _ q1 q2 q3
      | _ => exact hr2.elim
  | _ => exact hr.elim
end
/-- how many it has -/
theorem setR_card {w : World} {h : Heap} {a : Addr} {S : Int → Bool} {n : Nat} (R : SetR w h a S n) {M : List Int} (hM : ∀ j, S j = true → j ∈ M) : n ≤ M.length := by
  obtain ⟨o, es, ep, t, ho, _, _, _, nd, hm, _, _, hn, _⟩ := R
  have := Nu.nodup_sub_len nd fun j hj => hM j ((hm j).mpr hj)
  rw [List.length_map, Array.length_toList] at this
  omega
section
variable {X : Cx}
def rSetL (w : World) (K : PySem.W.Frag) : List V → Hp → VK → Prop := fun xs H Q => ∃ (l : Addr) (ns : List Int), xs = [V.ref l] ∧ SqL K H l (ns.map V.int) ∧ ns.length + 1 < scanBound ∧
  ∀ (p : Addr) (c : Nat), H p = none → (∀ M : List Int, (∀ j, j ∈ ns → j ∈ M) → c ≤ M.length) → Q (.ref p) (upd H p (SetO w p (fun j => decide (j ∈ ns)) c))
/-- set(xs) of a list of whole numbers -/
theorem cr_setL (hc : X.calm = true) : CallR X (.type "set") (rSetL X.w X.K) := by
  intro pins s σ H vs us Q I r h
  obtain ⟨l, ns, rfl, hs, hb, q⟩ := h
  obtain ⟨its, rv, hl, _⟩ := I.list hs
  rw [Vals.ref1 r]
  refine set_list ns (I.ok.hd hc) hl.isList rv.ints hb fun h' tk c R hle hk => ?_
  exact ⟨.ref _, _, I.laid (t' := tk) (fun b o e => hk b o e) (Nat.le_refl _) (setO_new R), rfl, q _ c (I.hok.fresh (Nat.le_refl _)) fun M hM => setR_card R fun j hj => hM j (of_decide_eq_true hj)⟩
end
end NuR
end
/-! # NuR3 -/
section
set_option Elab.async false
set_option maxRecDepth 100000
set_option maxHeartbeats 4000000
set_option linter.all false
namespace NuR
open PySem PySem.Spec PyProof.Rows L2
/-- an iterator at i over what stands at l: st k says that k items are taken -/
structure Src (prog : Program) (w : World) (i l : Addr) (xs : Array Value) (st : Nat → Heap → Prop) : Prop where
  keep : ∀ k h h', st k h → (∀ o, h.get? i = some o → h'.get? i = some o) → (∀ o, h.get? l = some o → h'.get? l = some o) → st k h'
  here : ∀ k h, st k h → ∃ o, h.get? i = some o ∧ ∀ v, o.data ≠ .cell v
  next : ∀ (A : Around) (E : Value → Shared → Prop) (s : Shared) (k : Nat) (x : Value) (Q : Value → Shared → Prop), st k s.heap → xs[k]? = some x →
    (∀ h', st (k + 1) h' → Heap.SameBut i s.heap h' → Q x { s with heap := h' }) → wpAny (model prog w) A (Builtin.SmallTypes.nextOf (.ref i)) Q E s
  stop : ∀ (A : Around) (E : Value → Shared → Prop) (s : Shared) (k : Nat) (Q : Value → Shared → Prop), A.handled = none → st k s.heap → xs[k]? = none →
    (∀ h' e, Heap.ExtBut i s.heap h' → (∃ o, h'.get? e = some o ∧ o.cls = .type "StopIteration") → E (.ref e) { s with heap := h' }) → wpAny (model prog w) A (Builtin.SmallTypes.nextOf (.ref i)) Q E s
theorem srcL {prog : Program} {w : World} {i l : Addr} {xs : Array Value} (hne : l ≠ i) : Src prog w i l xs fun k h => h.IsListIter i l k ∧ h.IsList l xs where
  keep := fun k h h' ⟨p, q⟩ a b => ⟨p.at a, by obtain ⟨o, e, r⟩ := q; exact ⟨o, b o e, r⟩⟩
  here := fun k h ⟨⟨o, e, _, d⟩, _⟩ => ⟨o, e, fun v q => by rw [d] at q; cases q⟩
  next := fun A E s k x Q ⟨p, q⟩ hx hQ => wpAny_nextOf_list_item p q hx fun h' p' sb => hQ h' ⟨p', q.extBut sb.extBut hne⟩ sb
  stop := fun A E s k Q hh ⟨p, q⟩ hx hE => wpAny_nextOf_list_end hh p q hx hE
theorem srcT {prog : Program} {w : World} {i l : Addr} {xs : Array Value} (hne : l ≠ i) : Src prog w i l xs fun k h => h.IsTupleIter i l k ∧ h.IsTuple l xs where
  keep := fun k h h' ⟨p, q⟩ a b => ⟨p.at a, by obtain ⟨o, e, r⟩ := q; exact ⟨o, b o e, r⟩⟩
  here := fun k h ⟨⟨o, e, _, d⟩, _⟩ => ⟨o, e, fun v q => by rw [d] at q; cases q⟩
  next := fun A E s k x Q ⟨p, q⟩ hx hQ => RZ.nextOf_tuple_item p q hx fun h' p' sb => hQ h' ⟨p', q.extBut sb.extBut hne⟩ sb
  stop := fun A E s k Q hh ⟨p, q⟩ hx hE => RZ.nextOf_tuple_end hh p q hx hE
section
variable {prog : Program} {w : World} {A : Around} {E : Value → Shared → Prop} {s : Shared} {z TI TO i1 i2 l1 l2 : Addr} {k : Nat} {xs ys : Array Value} {x y a b : Value} {st1 st2 : Nat → Heap → Prop}
theorem Src.mv {i l : Addr} {xs : Array Value} {st : Nat → Heap → Prop} (S : Src prog w i l xs st) {c : Addr} {k : Nat} {h h' : Heap} (p : st k h) (e : Heap.ExtBut c h h') (hi : i ≠ c) (hl : l ≠ c) : st k h' :=
  S.keep k h h' p (fun o q => e i o hi q) fun o q => e l o hl q
/-- zip's next, over any two -/
theorem zip_step {Q : Value → Shared → Prop} (D : ZipApart z TI TO i1 i2 l1 l2) (S1 : Src prog w i1 l1 xs st1) (S2 : Src prog w i2 l2 ys st2) (gz : IsZip s.heap z TI TO .none) (gI : IsPair s.heap TI (.ref i1) (.ref i2)) (gO : IsPair s.heap TO a b)
    (p1 : st1 k s.heap) (p2 : st2 k s.heap) (hx : xs[k]? = some x) (hy : ys[k]? = some y)
    (fin : ∀ h', IsZip h' z TI TO (rawInt s.heap.objs.size) → IsPair h' TO x y → st1 (k + 1) h' → st2 (k + 1) h' → IsPair h' s.heap.objs.size x y → h'.objs.size = s.heap.objs.size + 1 →
      (∀ c o, c ≠ z → c ≠ TO → c ≠ i1 → c ≠ i2 → s.heap.get? c = some o → h'.get? c = some o) → Q (.ref s.heap.objs.size) { s with heap := h' }) :
    wpAny (model prog w) A (Builtin.«zip.__next__» ⟨[.ref z], []⟩) (fun f s' => ∃ v, f = .done (.ret v) ∧ Q v s') E s := by
  refine (show wpAny _ _ (field (.ref z) 2 >>= _) _ _ _ from wpAny_bind (wpAny_field gz rfl (x := .bool false) rfl ?_))
  refine (show wpAny _ _ (field (.ref z) 3 >>= _) _ _ _ from wpAny_bind (wpAny_field gz rfl (x := .ref TI) rfl (wpAny_bind (wpAny_seqItems gI rfl ?_))))
  refine (show wpAny _ _ (Builtin.SmallTypes.ownedTupleIsFree (.ref z) >>= _) _ _ _ from wpAny_bind ?_)
  unfold Builtin.SmallTypes.ownedTupleIsFree
  refine wpAny_bind (wpAny_field gz rfl (x := .none) rfl (wpAny_pure ?_))
  simp only [if_true]
  refine wpAny_bind (wpAny_rule (wpAny_bind (wpAny_field gz rfl (x := .ref TO) rfl (wpAny_bind (wpAny_setField_rec gz (by simp) fun ha za sa => ?_)))))
  replace za : IsZip ha z TI TO .ellipsis := za
  refine wpAny_bind ?_
  simp only [List.zipIdx_cons, List.zipIdx_nil, List.forIn_cons, List.forIn_nil]
  refine wpAny_bind (wpAny_bind (wpAny_onRaise (show wpAny _ _ (Builtin.SmallTypes.nextOf (.ref i1) >>= _) _ _ _ from wpAny_bind (S1.next _ _ _ k x _ (S1.mv p1 sa.extBut D.i1z D.l1z) hx fun hb p1b sb => wpAny_pure ?_))))
  have Ob : IsPair hb TO a b := sb.extBut _ _ D.TOi1 (sa.extBut _ _ D.TOz gO)
  refine wpAny_bind (wpAny_seqItems Ob rfl (wpAny_bind (wpAny_updateSeq_pair Ob fun hc Oc sc => ?_)))
  replace Oc : IsPair hc TO x b := Oc
  have p2c : st2 k hc := S2.mv (S2.mv (S2.mv p2 sa.extBut D.i2z D.l2z) sb.extBut D.i12.symm D.l2i1) sc.extBut D.TOi2.symm D.l2TO
  refine wpAny_bind (wpAny_letGo (wpAny_pure (wpAny_bind (wpAny_bind (wpAny_onRaise (show wpAny _ _ (Builtin.SmallTypes.nextOf (.ref i2) >>= _) _ _ _ from wpAny_bind (S2.next _ _ _ k y _ p2c hy fun hd p2d sd => wpAny_pure ?_)))))))
  have Od : IsPair hd TO x b := sd.extBut _ _ D.TOi2 Oc
  refine wpAny_bind (wpAny_seqItems Od rfl (wpAny_bind (wpAny_updateSeq_pair Od fun he Oe se => ?_)))
  replace Oe : IsPair he TO x y := Oe
  refine wpAny_bind (wpAny_letGo (wpAny_pure (wpAny_pure (wpAny_bind (wpAny_seqItems Oe rfl (wpAny_bind (wpAny_newTuple ?_)))))))
  have size : he.objs.size = s.heap.objs.size := by rw [se.1, sd.1, sc.1, sb.1, sa.1]
  have ze : IsZip he z TI TO .ellipsis := se.extBut _ _ D.TOz.symm (sd.extBut _ _ D.i2z.symm (sc.extBut _ _ D.TOz.symm (sb.extBut _ _ D.i1z.symm za)))
  have old : ∀ c o, c ≠ z → c ≠ TO → c ≠ i1 → c ≠ i2 → s.heap.get? c = some o → he.get? c = some o := fun c o q1 q2 q3 q4 e =>
    se.extBut _ _ q2 (sd.extBut _ _ q4 (sc.extBut _ _ q2 (sb.extBut _ _ q3 (sa.extBut _ _ q1 e))))
  have p1e : st1 (k + 1) he := S1.mv (S1.mv (S1.mv p1b sc.extBut D.TOi1.symm D.l1TO) sd.extBut D.i12 D.l1i2) se.extBut D.TOi1.symm D.l1TO
  have p2e : st2 (k + 1) he := S2.mv p2d se.extBut D.TOi2.symm D.l2TO
  have zlt := Heap.lt_size ze
  refine (show wpAny _ _ (Builtin.SmallTypes.ownedTupleHandOut (.ref z) (.ref he.objs.size) >>= _) _ _ _ from wpAny_bind ?_)
  unfold Builtin.SmallTypes.ownedTupleHandOut
  have zf : IsZip (he.push { cls := .type "tuple", data := .seq #[x, y] }) z TI TO .ellipsis := Heap.get?_push_of_some _ ze
  refine wpAny_bind (wpAny_setField_rec zf (by simp) fun hg zg sg => ?_)
  replace zg : IsZip hg z TI TO (rawInt he.objs.size) := zg
  refine wpAny_setField_rec zg (by simp) fun hh zh sh => ?_
  replace zh : IsZip hh z TI TO (rawInt he.objs.size) := zh
  have up : ∀ c o, c ≠ z → he.get? c = some o → hh.get? c = some o := fun c o q e => sh.extBut _ _ q (sg.extBut _ _ q (Heap.get?_push_of_some _ e))
  have T : IsPair hh he.objs.size x y := sh.extBut _ _ (Nat.ne_of_gt zlt) (sg.extBut _ _ (Nat.ne_of_gt zlt) (Heap.get?_push_size _ rfl))
  have sz : hh.objs.size = he.objs.size + 1 := by rw [sh.1, sg.1, Heap.size_push]
  rw [size] at zh T sz
  refine wpAny_pure ⟨_, rfl, (show Q (.ref he.objs.size) _ from ?_)⟩
  rw [size]
  exact fin hh zh (up _ _ D.TOz Oe) (S1.keep _ _ _ p1e (fun o => up _ o D.i1z) fun o => up _ o D.l1z) (S2.keep _ _ _ p2e (fun o => up _ o D.i2z) fun o => up _ o D.l2z) T sz fun c o q1 q2 q3 q4 e => up c o q1 (old c o q1 q2 q3 q4 e)
theorem zip_stop {Q : Fin → Shared → Prop} (free : A.handled = none) (D : ZipApart z TI TO i1 i2 l1 l2) (S1 : Src prog w i1 l1 xs st1) (S2 : Src prog w i2 l2 ys st2) (gz : IsZip s.heap z TI TO .none) (gI : IsPair s.heap TI (.ref i1) (.ref i2)) (gO : IsPair s.heap TO a b)
    (p1 : st1 k s.heap) (p2 : st2 k s.heap) (none1 : xs[k]? = none ∨ ys[k]? = none)
    (fin : ∀ h' e, (∀ c o, c ≠ z → c ≠ TO → c ≠ i1 → c ≠ i2 → s.heap.get? c = some o → h'.get? c = some o) → (∃ o, h'.get? e = some o ∧ o.cls = .type "StopIteration") → E (.ref e) { s with heap := h' }) :
    wpAny (model prog w) A (Builtin.«zip.__next__» ⟨[.ref z], []⟩) Q E s := by
  refine (show wpAny _ _ (field (.ref z) 2 >>= _) _ _ _ from wpAny_bind (wpAny_field gz rfl (x := .bool false) rfl ?_))
  refine (show wpAny _ _ (field (.ref z) 3 >>= _) _ _ _ from wpAny_bind (wpAny_field gz rfl (x := .ref TI) rfl (wpAny_bind (wpAny_seqItems gI rfl ?_))))
  refine (show wpAny _ _ (Builtin.SmallTypes.ownedTupleIsFree (.ref z) >>= _) _ _ _ from wpAny_bind ?_)
  unfold Builtin.SmallTypes.ownedTupleIsFree
  refine wpAny_bind (wpAny_field gz rfl (x := .none) rfl (wpAny_pure ?_))
  simp only [if_true]
  refine wpAny_bind (wpAny_rule (wpAny_bind (wpAny_field gz rfl (x := .ref TO) rfl (wpAny_bind (wpAny_setField_rec gz (by simp) fun ha za sa => ?_)))))
  replace za : IsZip ha z TI TO .ellipsis := za
  refine wpAny_bind ?_
  simp only [List.zipIdx_cons, List.zipIdx_nil, List.forIn_cons, List.forIn_nil]
  refine wpAny_bind (wpAny_bind (wpAny_onRaise (show wpAny _ _ (Builtin.SmallTypes.nextOf (.ref i1) >>= _) _ _ _ from wpAny_bind ?_)))
  have away : ∀ {h2 : Heap} {e : Addr}, IsZip h2 z TI TO .ellipsis → (∃ o, h2.get? e = some o ∧ o.cls = .type "StopIteration") → e ≠ z := fun zz ⟨o, g, c⟩ q => by
    subst q
    rw [zz] at g
    cases g
    simp at c
  cases hx : xs[k]? with
  | none =>
    refine S1.stop _ _ _ k _ free (S1.mv p1 sa.extBut D.i1z D.l1z) hx fun hb e sb err => ?_
    have zb : IsZip hb z TI TO .ellipsis := sb _ _ D.i1z.symm za
    have ez := away zb err
    obtain ⟨o, g, c⟩ := err
    exact wpAny_setField_rec zb (by simp) fun hc _ sc => fin hc e (fun c o q1 _ q3 _ g => sc.extBut _ _ q1 (sb _ _ q3 (sa.extBut _ _ q1 g))) ⟨o, sc.extBut _ _ ez g, c⟩
  | some x =>
    have hy : ys[k]? = none := none1.resolve_left (by rw [hx]; exact fun q => nomatch q)
    refine S1.next _ _ _ k x _ (S1.mv p1 sa.extBut D.i1z D.l1z) hx fun hb p1b sb => wpAny_pure ?_
    have Ob : IsPair hb TO a b := sb.extBut _ _ D.TOi1 (sa.extBut _ _ D.TOz gO)
    refine wpAny_bind (wpAny_seqItems Ob rfl (wpAny_bind (wpAny_updateSeq_pair Ob fun hc Oc sc => ?_)))
    have p2c : st2 k hc := S2.mv (S2.mv (S2.mv p2 sa.extBut D.i2z D.l2z) sb.extBut D.i12.symm D.l2i1) sc.extBut D.TOi2.symm D.l2TO
    refine wpAny_bind (wpAny_letGo (wpAny_pure (wpAny_bind (wpAny_bind (wpAny_onRaise (show wpAny _ _ (Builtin.SmallTypes.nextOf (.ref i2) >>= _) _ _ _ from wpAny_bind (S2.stop _ _ _ k _ free p2c hy fun hd e sd err => ?_)))))))
    have zd : IsZip hd z TI TO .ellipsis := sd _ _ D.i2z.symm (sc.extBut _ _ D.TOz.symm (sb.extBut _ _ D.i1z.symm za))
    have ez := away zd err
    obtain ⟨o, g, c⟩ := err
    exact wpAny_setField_rec zd (by simp) fun he _ se => fin he e (fun c o q1 q2 q3 q4 g => se.extBut _ _ q1 (sd _ _ q4 (sc.extBut _ _ q2 (sb.extBut _ _ q3 (sa.extBut _ _ q1 g))))) ⟨o, se.extBut _ _ ez g, c⟩
theorem zip_nextI {Q : Option Value → Shared → Prop} (D : ZipApart z TI TO i1 i2 l1 l2) (S1 : Src prog w i1 l1 xs st1) (S2 : Src prog w i2 l2 ys st2) (gz : IsZip s.heap z TI TO .none) (gI : IsPair s.heap TI (.ref i1) (.ref i2)) (gO : IsPair s.heap TO a b)
    (p1 : st1 k s.heap) (p2 : st2 k s.heap) (hx : xs[k]? = some x) (hy : ys[k]? = some y)
    (fin : ∀ h', IsZip h' z TI TO (rawInt s.heap.objs.size) → IsPair h' TO x y → st1 (k + 1) h' → st2 (k + 1) h' → IsPair h' s.heap.objs.size x y → h'.objs.size = s.heap.objs.size + 1 →
      (∀ c o, c ≠ z → c ≠ TO → c ≠ i1 → c ≠ i2 → s.heap.get? c = some o → h'.get? c = some o) → Q (some (.ref s.heap.objs.size)) { s with heap := h' }) : wpAny (model prog w) A (pyNext (.ref z)) Q E s := by
  have tz : s.TypeIs (.ref z) "zip" := ⟨_, gz, rfl⟩
  unfold pyNext
  exact wpAny_bind (wpAny_attempt (wpAny_callSpecial?_slot (name := Str.ofString "__next__") tz F.slot_zip_next (wpAny_call_entry F.slot_zip_next tz F.entry_zip_next
    (zip_step D S1 S2 gz gI gO p1 p2 hx hy fun h' q1 q2 q3 q4 q5 q6 q7 => wpAny_pure (fin h' q1 q2 q3 q4 q5 q6 q7)) (F.args_zip_next_1 _))))
theorem zip_nextE {Q : Option Value → Shared → Prop} (free : A.handled = none) (D : ZipApart z TI TO i1 i2 l1 l2) (S1 : Src prog w i1 l1 xs st1) (S2 : Src prog w i2 l2 ys st2) (gz : IsZip s.heap z TI TO .none) (gI : IsPair s.heap TI (.ref i1) (.ref i2)) (gO : IsPair s.heap TO a b)
    (p1 : st1 k s.heap) (p2 : st2 k s.heap) (none1 : xs[k]? = none ∨ ys[k]? = none)
    (fin : ∀ h', (∀ c o, c ≠ z → c ≠ TO → c ≠ i1 → c ≠ i2 → s.heap.get? c = some o → h'.get? c = some o) → Q none { s with heap := h' }) : wpAny (model prog w) A (pyNext (.ref z)) Q E s := by
  have tz : s.TypeIs (.ref z) "zip" := ⟨_, gz, rfl⟩
  unfold pyNext
  refine wpAny_bind (wpAny_attempt (wpAny_callSpecial?_slot (name := Str.ofString "__next__") tz F.slot_zip_next (wpAny_call_entry F.slot_zip_next tz F.entry_zip_next
    (zip_stop free D S1 S2 gz gI gO p1 p2 none1 fun h' e hk ⟨o, g, c⟩ => ?_) (F.args_zip_next_1 _))))
  exact wpAny_bind (wpAny_isInstance (T := "StopIteration") (b := true) ⟨o, g, c⟩ isSubtype_stop (wpAny_pure (fin _ hk)))
end
/-! zip(list, tuple) is made -/
abbrev zm1 (h : Heap) (l1 : Addr) : Heap := h.push { cls := .type "list_iterator", data := .fields #[.ref l1, .int 0 0] }
abbrev zm2 (h : Heap) (l1 l2 : Addr) : Heap := (zm1 h l1).push { cls := .type "tuple_iterator", data := .fields #[.ref l2, .int 0 0] }
abbrev zm3 (h : Heap) (l1 l2 : Addr) : Heap := (zm2 h l1 l2).push { cls := .type "tuple", data := .seq #[.ref h.objs.size, .ref (zm1 h l1).objs.size] }
abbrev zm4 (h : Heap) (l1 l2 : Addr) : Heap := (zm3 h l1 l2).push { cls := .type "tuple", data := .seq #[.none, .none] }
abbrev zm5 (h : Heap) (l1 l2 : Addr) : Heap := (zm4 h l1 l2).push { cls := .type "zip", data := .fields #[.none, .bool false, .bool false, .ref (zm2 h l1 l2).objs.size, .ref (zm3 h l1 l2).objs.size] }
theorem zm_new (l1 l2 : Addr) (xs ys : Array Value) : Meets (Builtin.«zip.__new__» ⟨[.type "zip", .ref l1, .ref l2], []⟩) (fun _ R s => s.heap.IsList l1 xs ∧ s.heap.IsTuple l2 ys ∧ R (.ok (.ret (.ref (zm4 s.heap l1 l2).objs.size))) { s with heap := zm5 s.heap l1 l2 }) :=
  .of_wp fun prog w A R s h => by
    obtain ⟨hp, gg, d, tk, os⟩ := s
    obtain ⟨q1, q2, h⟩ := h
    have e0 := sub_zip
    have e1 : Heap.IsList (Shared.heap ⟨hp, gg, d, tk, os⟩) l1 xs := q1
    have e2 : Heap.IsTuple (Shared.heap ⟨zm1 hp l1, gg, d, tk, os⟩) l2 ys := Heap.IsTuple.push q2 _
    wp_walk using wpAny_pyIter_list e1, wpAny_pyIter_tuple e2
    exact ⟨_, rfl, h⟩
theorem zm_call {prog : Program} {w : World} {A : Around} {E : Value → Shared → Prop} {s : Shared} {l1 l2 : Addr} {xs ys : Array Value} {Q : Value → Shared → Prop} (q1 : s.heap.IsList l1 xs) (q2 : s.heap.IsTuple l2 ys)
    (h : ∀ h', IsZip h' (s.heap.objs.size + 4) (s.heap.objs.size + 2) (s.heap.objs.size + 3) .none → IsPair h' (s.heap.objs.size + 2) (.ref s.heap.objs.size) (.ref (s.heap.objs.size + 1)) → IsPair h' (s.heap.objs.size + 3) .none .none →
      h'.IsListIter s.heap.objs.size l1 0 → h'.IsTupleIter (s.heap.objs.size + 1) l2 0 → (∀ c o, s.heap.get? c = some o → h'.get? c = some o) → Q (.ref (s.heap.objs.size + 4)) { s with heap := h' }) :
    wpAny (model prog w) A (call (.type "zip") [.ref l1, .ref l2]) Q E s := by
  refine callType_new F.called_zip (by decide) (F.typeCall_zip_2 _ _) (F.newCall_zip_2 _ _) (fun obj => F.args_object_init_3 obj _ _) F.entry_zip_new (zm_new l1 l2 xs ys) ⟨q1, q2, ?_⟩
  have n1 : (zm1 s.heap l1).objs.size = s.heap.objs.size + 1 := Heap.size_push ..
  have n2 : (zm2 s.heap l1 l2).objs.size = s.heap.objs.size + 2 := by rw [Heap.size_push, n1]
  have n3 : (zm3 s.heap l1 l2).objs.size = s.heap.objs.size + 3 := by rw [Heap.size_push, n2]
  have n4 : (zm4 s.heap l1 l2).objs.size = s.heap.objs.size + 4 := by rw [Heap.size_push, n3]
  have o5 : (zm5 s.heap l1 l2).get? (zm4 s.heap l1 l2).objs.size = some _ := Heap.get?_push_size _ rfl
  have o4 : (zm5 s.heap l1 l2).get? (zm3 s.heap l1 l2).objs.size = some _ := Heap.get?_push_of_some _ (Heap.get?_push_size _ rfl)
  have o3 : (zm5 s.heap l1 l2).get? (zm2 s.heap l1 l2).objs.size = some _ := Heap.get?_push_of_some _ (Heap.get?_push_of_some _ (Heap.get?_push_size _ rfl))
  have o2 : (zm5 s.heap l1 l2).get? (zm1 s.heap l1).objs.size = some _ := Heap.get?_push_of_some _ (Heap.get?_push_of_some _ (Heap.get?_push_of_some _ (Heap.get?_push_size _ rfl)))
  have o1 : (zm5 s.heap l1 l2).get? s.heap.objs.size = some _ := Heap.get?_push_of_some _ (Heap.get?_push_of_some _ (Heap.get?_push_of_some _ (Heap.get?_push_of_some _ (Heap.get?_push_size _ rfl))))
  refine (show _ ∧ _ from ?_)
  rw [n2, n3, n4] at o5
  rw [n1, n2] at o3
  rw [n3] at o4
  rw [n1] at o2
  rw [n4]
  exact ⟨⟨_, o5, rfl⟩, h _ o5 o3 o4 ⟨_, o1, rfl, rfl⟩ ⟨_, o2, rfl, rfl⟩ fun c o g => Heap.get?_push_of_some _ (Heap.get?_push_of_some _ (Heap.get?_push_of_some _ (Heap.get?_push_of_some _ (Heap.get?_push_of_some _ g))))⟩
/-- the list at a and the tuple at b, in new pairs -/
def ItzM (K : PySem.W.Frag) (a b : Addr) : It :=
  ⟨fun i H => ∃ (xs ys : List V) (x y : V), SqL K H a xs ∧ SqT K H b ys ∧ xs[i]? = some x ∧ ys[i]? = some y,
    fun i H v H' => ∃ T x y, v = .ref T ∧ H T = none ∧ H' = upd H T (.tup [x, y]) ∧ (∀ xs, SqL K H a xs → xs[i]? = some x) ∧ ∀ ys, SqT K H b ys → ys[i]? = some y,
    fun i H => ∃ xs ys : List V, SqL K H a xs ∧ SqT K H b ys ∧ (xs.length ≤ i ∨ ys.length ≤ i)⟩
theorem IsL.at {h h' : Heap} {a : Addr} {xs : Array Value} (p : h.IsList a xs) (k : ∀ o, h.get? a = some o → h'.get? a = some o) : h'.IsList a xs := by
  obtain ⟨o, e, r⟩ := p
  exact ⟨o, k o e, r⟩
theorem turn_zipM {P : Program} {w : World} {K : PySem.W.Frag} {elts : List Expr} {kk : Nat} {tpos : Pos} {a b z TI TO i1 i2 : Addr} (D : ZipApart z TI TO i1 i2 a b) :
    Turn P w K (.Tuple elts kk tpos) (ItzM K a b) [z, TI, TO, i1, i2] z (fun i h => IsZip h z TI TO .none ∧ IsPair h TI (.ref i1) (.ref i2) ∧ (∃ x y, IsPair h TO x y) ∧ h.IsListIter i1 a i ∧ h.IsTupleIter i2 b i) where
  mem := List.mem_cons_self
  obj := by
    rintro i h ⟨gz, gI, ⟨x, y, gO⟩, ⟨o1, e1, _, d1⟩, ⟨o2, e2, _, d2⟩⟩ c hc
    have hc : c = z ∨ c = TI ∨ c = TO ∨ c = i1 ∨ c = i2 := by simpa using hc
    rcases hc with rfl | rfl | rfl | rfl | rfl
    · exact ⟨_, gz, fun v q => nomatch q⟩
    · exact ⟨_, gI, fun v q => nomatch q⟩
    · exact ⟨_, gO, fun v q => nomatch q⟩
    · exact ⟨o1, e1, fun v q => by rw [d1] at q; cases q⟩
    · exact ⟨o2, e2, fun v q => by rw [d2] at q; cases q⟩
  keep := by
    rintro i h h' ⟨gz, gI, ⟨x, y, gO⟩, p1, p2⟩ kp
    exact ⟨kp z (by simp) _ gz, kp TI (by simp) _ gI, ⟨x, y, kp TO (by simp) _ gO⟩, p1.at fun o => kp i1 (by simp) o, p2.at fun o => kp i2 (by simp) o⟩
  item := by
    rintro X rfl rfl rfl hc i pins s σ H E I fp ⟨gz, gI, ⟨x0, y0, gO⟩, p1, p2⟩ ⟨xs, ys, x, y, qx, qy, hx, hy⟩
    obtain ⟨it1, r1, t1, _⟩ := I.list qx
    obtain ⟨it2, r2, t2, _⟩ := I.tuple qy
    obtain ⟨u1, e1, v1⟩ := r1.get hx
    obtain ⟨u2, e2, v2⟩ := r2.get hy
    have zl : z < s.heap.objs.size := Heap.lt_size gz
    refine zip_nextI D (srcL (xs := it1.toArray) D.l1i1) (srcT (xs := it2.toArray) D.l2i2) gz gI gO ⟨p1, t1.isList⟩ ⟨p2, t2⟩ (x := u1) (y := u2) (by simpa using e1) (by simpa using e2) fun h' gz' gO' p1' p2' gT _ old => ?_
    refine ⟨_, rfl, wpAny_letOwnedTupleGo_zip (s := { s with heap := h' }) gz' fun h2 gz2 sb => ?_⟩
    have gT2 : h2.get? s.heap.objs.size = some { cls := .type "tuple", data := .seq #[u1, u2] } := (sb.2 _ (Nat.ne_of_gt zl)).trans gT
    have ok : ObjOk X.prog X.w (upd H s.heap.objs.size (.tup [x, y])) h2 s.heap.objs.size (.tup [x, y]) := ⟨by show 2 ≤ sizeLine; decide, [u1, u2], .cons v1 (.cons v2 .nil), ⟨_, gT2, rfl, _, rfl⟩⟩
    have J : Inv X pins σ (upd H s.heap.objs.size (.tup [x, y])) { s with heap := h2 } := I.turnedNew (t' := s.toks) (ch := [z, TI, TO, i1, i2])
      (fun c o hb g => (sb.2 c fun q => hb (by simp [q])).trans (old c o (fun q => hb (by simp [q])) (fun q => hb (by simp [q])) (fun q => hb (by simp [q])) (fun q => hb (by simp [q])) g)) fp (Nat.le_refl _) ok
    refine ⟨.ref s.heap.objs.size, _, J, rfl, ⟨_, x, y, rfl, I.hok.fresh (Nat.le_refl _), rfl, fun l hl => by rw [I.list_inj hl qx, hx], fun l hl => by rw [I.tuple_inj hl qy, hy]⟩,
      ⟨gz2, (sb.2 _ D.TIz).trans (old _ _ D.TIz D.TITO D.TIi1 D.TIi2 gI), ⟨u1, u2, (sb.2 _ D.TOz).trans gO'⟩, p1'.1.at fun o g => (sb.2 _ D.i1z).trans g, p2'.1.at fun o g => (sb.2 _ D.i2z).trans g⟩, fun c hcm => ?_⟩
    have lt : c < s.heap.objs.size := by
      have hcm : c = z ∨ c = TI ∨ c = TO ∨ c = i1 ∨ c = i2 := by simpa using hcm
      rcases hcm with rfl | rfl | rfl | rfl | rfl
      · exact zl
      · exact Heap.lt_size gI
      · exact Heap.lt_size gO
      · exact Heap.lt_size p1.choose_spec.1
      · exact Heap.lt_size p2.choose_spec.1
    rw [upd_ne (Nat.ne_of_lt lt), (fp c hcm).1]
  done := by
    rintro X rfl rfl rfl hc i pins s σ H E I fp ⟨gz, gI, ⟨x0, y0, gO⟩, p1, p2⟩ ⟨xs, ys, qx, qy, hend⟩
    obtain ⟨it1, r1, t1, _⟩ := I.list qx
    obtain ⟨it2, r2, t2, _⟩ := I.tuple qy
    have n1 := r1.length
    have n2 := r2.length
    refine zip_nextE (I.ok.hd hc) D (srcL (xs := it1.toArray) D.l1i1) (srcT (xs := it2.toArray) D.l2i2) gz gI gO ⟨p1, t1.isList⟩ ⟨p2, t2⟩ (hend.imp (fun q => by simp; omega) fun q => by simp; omega) fun h' old => ⟨rfl, ?_⟩
    exact I.turnedL (t' := s.toks) (ch := [z, TI, TO, i1, i2]) (fun c o hb g => old c o (fun q => hb (by simp [q])) (fun q => hb (by simp [q])) (fun q => hb (by simp [q])) (fun q => hb (by simp [q])) g) fp
  self := fun A i s Q E st h => wpAny_pyIter_zip st.1 h
/-- zip(xs, ys): two lists, or a list and a tuple -/
def iZipM (K : PySem.W.Frag) (ta : TA) : TI := fun σ H R => ta σ H fun vs H1 => ∃ a b xs ys, vs = [.ref a, .ref b] ∧ ((SqL K H1 a xs ∧ SqL K H1 b ys ∧ R (Itz K a b) H1) ∨ (SqL K H1 a xs ∧ SqT K H1 b ys ∧ R (ItzM K a b) H1))
theorem pi_zipM {X : Cx} {e e2 : Expr} {ta : TA} {p pos tpos : Pos} {elts : List Expr} {kk : Nat} (hg : Gl X "zip") (hm : X.mg "zip" = none) (ha : PA X [e, e2] ta)
    (he : starEach [e, e2] X.env = (false, eval e X.env) :: starEach [e2] X.env := by rfl) (hp : (backTo pos (starEach [e2] X.env)).any (·.1) = false := by rfl) :
    PI X (.Tuple elts kk tpos) (.Call (.Name "zip" p) [e, e2] [] pos) (iZipM X.K ta) := by
  refine ⟨fun pins s σ H R I h => Call_ (ld_blt I hg hm PyProof.Rows.boot_zip (PyProof.Rows.callWith_type1 (thn (ha.run pos pins s σ H _ I h) fun us s1 ⟨vs, H1, I1, r1, q1⟩ => ?_) he hp))⟩
  obtain ⟨a, b, xs, ys, rfl, q1⟩ := q1
  obtain ⟨u1, ut, rfl, ra, rt⟩ : ∃ u ut, us = u :: ut ∧ RelV (.ref a) u ∧ Vals [.ref b] ut := by cases r1 with | cons r rr => exact ⟨_, _, rfl, r, rr⟩
  obtain ⟨u2, rfl, rb⟩ := rt.one
  cases ra
  cases rb
  have new : ∀ c, c ∈ [s1.heap.objs.size + 4, s1.heap.objs.size + 2, s1.heap.objs.size + 3, s1.heap.objs.size, s1.heap.objs.size + 1] → FpOk X pins H1 c := fun c hc => by
    have hc : c = s1.heap.objs.size + 4 ∨ c = s1.heap.objs.size + 2 ∨ c = s1.heap.objs.size + 3 ∨ c = s1.heap.objs.size ∨ c = s1.heap.objs.size + 1 := by simpa using hc
    have le : s1.heap.objs.size ≤ c := by
      rcases hc with rfl | rfl | rfl | rfl | rfl
      · exact Nat.le_add_right _ _
      · exact Nat.le_add_right _ _
      · exact Nat.le_add_right _ _
      · exact Nat.le_refl _
      · exact Nat.le_add_right _ _
    exact I1.fpOk le (I1.hok.fresh le)
  rcases q1 with ⟨qx, qy, q⟩ | ⟨qx, qy, q⟩
  · obtain ⟨it1, r1, t1, _⟩ := I1.list qx
    obtain ⟨it2, r2, t2, _⟩ := I1.list qy
    exact call_zip_2 t1.isList t2.isList fun h' gz gI gO p1 p2 _ old => wpAny_pyIter_zip gz ⟨_, _, _, _, H1, rfl, I1.kept (t' := s1.toks) old, turn_zip (PySem.W.ktu_apart s1.heap.objs.size a b t1.lt t2.lt), ⟨gz, gI, ⟨_, _, gO⟩, p1, p2⟩, new, q⟩
  · obtain ⟨it1, r1, t1, _⟩ := I1.list qx
    obtain ⟨it2, r2, t2, _⟩ := I1.tuple qy
    have lb : b < s1.heap.objs.size := Heap.lt_size t2.choose_spec.1
    exact zm_call t1.isList (show s1.heap.IsTuple b it2.toArray from t2) fun h' gz gI gO p1 p2 old => wpAny_pyIter_zip gz ⟨_, _, _, _, H1, rfl, I1.kept (t' := s1.toks) old, turn_zipM (PySem.W.ktu_apart s1.heap.objs.size a b t1.lt lb), ⟨gz, gI, ⟨_, _, gO⟩, p1, p2⟩, new, q⟩
/-- a loop over zip of a list and a tuple of one length -/
theorem for_zipM {K : PySem.W.Frag} {a b : Addr} {xs ys : List V} {g : TG} {tb : TS} {D : Ends} {σ : L2.St} {H : Hp} (len : xs.length = ys.length) (Pv : Nat → L2.St → Hp → Prop) (h0 : Pv 0 σ H) (hq : ∀ i σ H, Pv i σ H → SqL K H a xs ∧ SqT K H b ys)
    (hs : ∀ (i : Nat) (x y : V) (T : Addr) (σ : L2.St) (H : Hp), xs[i]? = some x → ys[i]? = some y → Pv i σ H → H T = none → g (.ref T) σ (upd H T (.tup [x, y])) fun s2 H2 => tb { D with nx := Pv (i + 1), ct := Pv (i + 1), bk := D.nx } s2 H2)
    (hd : ∀ σ H, Pv xs.length σ H → D.nx σ H) :
    ∃ W : Nat → Nat → L2.St → Hp → Prop, (∃ m, W 0 m σ H) ∧ ∀ i m σ H, W i m σ H → ((ItzM K a b).stop i H ∧ D.nx σ H) ∨ ((ItzM K a b).go i H ∧ ∃ N : L2.St → Hp → Prop, (∀ s' H', N s' H' → ∃ m', m' < m ∧ W (i + 1) m' s' H') ∧
      ∀ v H', (ItzM K a b).yld i H v H' → g v σ H' fun s2 H2 => tb { D with nx := N, ct := N, bk := D.nx } s2 H2) := by
  refine ⟨fun i m σ H => m = xs.length - i ∧ i ≤ xs.length ∧ Pv i σ H, ⟨_, rfl, Nat.zero_le _, h0⟩, ?_⟩
  rintro i m σ H ⟨rfl, le, p⟩
  obtain ⟨qx, qy⟩ := hq i σ H p
  rcases Nat.lt_or_eq_of_le le with lt | rfl
  · have ly : i < ys.length := len ▸ lt
    refine .inr ⟨⟨xs, ys, _, _, qx, qy, List.getElem?_eq_getElem lt, List.getElem?_eq_getElem ly⟩, Pv (i + 1), fun s' H' p' => ⟨_, by omega, rfl, lt, p'⟩, ?_⟩
    rintro v H' ⟨T, x', y', rfl, nT, rfl, f1, f2⟩
    exact hs i x' y' T σ H (f1 xs qx) (f2 ys qy) p nT
  · exact .inl ⟨⟨xs, ys, qx, qy, Or.inl (Nat.le_refl _)⟩, hd σ H p⟩
end NuR
end
/-! # NuR4 -/
section
set_option Elab.async false
set_option maxRecDepth 100000
set_option maxHeartbeats 4000000
set_option linter.all false
namespace NuR
open PySem PySem.Spec PyProof.Rows L2
/-- {k: v}, k a tuple -/
def tDisp1T (tk tv : TE) : TE := fun σ H Q => ∀ p, H p = none → tk σ (upd H p (.dT [])) fun x H1 => tv σ H1 fun y H2 => ∃ (b : Addr) (k : List Key), x = .ref b ∧ H2 b = some (.tup (k.map kV)) ∧ H2 p = some (.dT []) ∧ Q (.ref p) (upd H2 p (.dT [(k, y)]))
theorem pe_disp1T {X : Cx} {pos : Pos} {k v : Expr} {tk tv : TE} (hu : X.A.units + 1 < cLine) (hk : PE X k tk) (hv : PE X v tv) : PE X (.Dict [some k] [v] pos) (tDisp1T tk tv) := by
  refine ⟨fun pins s σ H Q I q => ?_⟩
  have sh := zip_pairTrees [some k] [v] X.env pos rfl rfl
  have ln := pairTrees_length [some k] [v] X.env pos rfl rfl
  have ne : pairTrees [some k] [v] X.env pos ≠ [] := fun e => by
    rw [e] at ln
    cases ln
  have I1 := I.laid (a := s.heap.objs.size) (o := .dT []) (h' := s.heap.push { cls := .type "dict", data := .dict #[] }) (t' := s.toks) (fun _ _ q => Heap.get?_push_of_some _ q) (Nat.le_refl _) (dt_empty s.heap I.big)
  rw [arm_eval_Dict, sh, dictDisplay_pairs _ ne (by rw [ln]; show 1 < 17; decide)]
  refine wpAny_bind (wpAny_standAt (wpAny_bind ?_))
  unfold subDict
  refine wpAny_bind (wpAny_alloc (wpAny_bind (wpAny_holding ?_)))
  rw [if_pos (by rw [ln]; show 1 ≤ 15; decide)]
  refine wpAny_bind (pairTrees_cons_walk (thn (hk.run pins _ σ _ _ I1 (q _ (I.hok.fresh (Nat.le_refl s.heap.objs.size)))) fun u s1 ⟨x, H1, J1, rx, q1⟩ => thn (hv.run pins s1 σ H1 _ J1 q1) fun r s2 ⟨y, H2, J2, ry, q2⟩ => pairTrees_nil_walk ?_))
  obtain ⟨b, ks, rfl, eb, ed, q3⟩ := q2
  cases (show u = Value.ref b from rx)
  obtain ⟨z, hd, xs, rel, dd⟩ := dt_of J2.hok ed
  cases rel
  refine wpAny_holding (wpAny_bind ?_)
  rw [List.forIn_cons]
  refine wpAny_bind (wpAny_bind (wpAny_dictSet_heap (hsz := Nat.zero_le _) (show (tupleKind (mixKind X.prog X.w)).room X.A from Nat.lt_of_succ_lt hu) (key_of J2.hok eb) dd fun h' dd' sb => wpAny_pure ?_))
  dsimp only
  rw [List.forIn_nil]
  refine wpAny_pure (wpAny_pure (wpAny_pure (wpAny_pure ⟨.ref s.heap.objs.size, _, ?_, rfl, q3⟩)))
  obtain ⟨o, es, ep, g, g2, g3, g4, _, g5⟩ := dd'
  refine d_write J2 (by rw [ed]; exact True.intro) sb ⟨o, g⟩ ⟨Nat.le_trans (Nat.le_of_eq rfl) (by show 1 ≤ sizeLine; decide), hd, _, ((KT.put (kvs := []) (xs := []) .nil ks eb ry).keeps fun c ys ec => ?_), o, es, ep, g, g2, g3, g4, g5⟩
  rw [upd_ne (ne_of ec ed (fun z => nomatch z))]
  exact ec
end NuR
end
/-! # NuR5 -/
section
set_option Elab.async false
set_option maxRecDepth 100000
set_option maxHeartbeats 4000000
set_option linter.all false
namespace NuR
open PySem PySem.Spec PyProof.Rows L2
/-- the comparison of two items, wherever what stood in h0 still stands (but for wr and S) -/
def CmpIn (prog : Program) (w : World) (A : Around) (h0 : Heap) (wr : List Addr) (S : Addr) (P : Nat → Value → Prop) (bt : Nat → Nat → Bool) : Prop :=
  ∀ i j vi vj (s : Shared) (Q : Value → Shared → Prop) (E : Value → Shared → Prop), (∀ b o, b ∉ wr → b ≠ S → h0.get? b = some o → s.heap.get? b = some o) → P i vi → P j vj → Q (.bool (bt i j)) s → wpAny (model prog w) A (richCompare .Lt vi vj) Q E s
section
variable {prog : Program} {w : World} {A : Around} {R : Result → Shared → Prop} {I : Addr} {fp wr : List Addr} {n : Nat} {P : Nat → Value → Prop} {St : Nat → Heap → Prop} {h0 : Heap} {S : Addr} {bt : Nat → Nat → Bool}
theorem min_turns (W : Walks prog w A.in1 I fp wr n P St) (cmp : CmpIn prog w A.in1 h0 wr S P bt) (out : S ∉ fp) : ∀ (k j : Nat) (s : Shared) (best : Value) (c : Nat), n - (j + 1) = k → j + 1 ≤ n → St (j + 1) s.heap → P (argBest bt j) best →
    s.heap.get? S = some { cls := .type "list", dict := none, data := .seq #[best, best] c, slots := #[] } → (∀ b o, b ∉ wr → b ≠ S → h0.get? b = some o → s.heap.get? b = some o) →
    (∀ v h' tk, P (argBest bt (n - 1)) v → (∀ b o, b ∉ wr → b ≠ S → h0.get? b = some o → h'.get? b = some o) → R (.ok (.ret v)) { s with heap := h', toks := tk }) →
    codeAny (model prog w) A (.builtin "min.loop" ⟨[.ref I, .none, .ref S], []⟩) R s := by
  have outw : S ∉ wr := fun q => out (W.sub _ q)
  have name : (toString "min" ++ toString ".loop" : String) = "min.loop" := by decide
  intro k
  induction k with
  | zero =>
    intro j s best c ek le st pb gS old fin
    have ej : j + 1 = n := by omega
    refine codeAny_builtin F.entry_min_loop ?_
    rw [Around.under_plainId F.plain_min_loop _]
    refine (show wpAny _ A.in1 (seqItems? (.ref S) >>= _) _ _ s from wpAny_bind (wpAny_seqItems gS rfl ?_))
    refine (show wpAny _ A.in1 (tryCatch (pyNext (.ref I)) _ >>= _) _ _ s from wpAny_bind (wpAny_tryCatch (W.done s _ _ (ej ▸ st) fun h' tk kp => ?_)))
    refine (show wpAny _ A.in1 (updateSeq S (fun _ => #[]) >>= _) _ _ _ from wpAny_bind (wpAny_updateSeq (kp S _ outw gS) rfl (wpAny_bind (wpAny_letGo (wpAny_pure ?_)))))
    exact fin best _ tk (by rw [← ej]; exact pb) fun b o q1 q2 e => (Heap.get?_update_other _ _ (Ne.symm q2)).trans (kp b o q1 (old b o q1 q2 e))
  | succ k ih =>
    intro j s best c ek le st pb gS old fin
    have lt : j + 1 < n := by omega
    refine codeAny_builtin F.entry_min_loop ?_
    rw [Around.under_plainId F.plain_min_loop _]
    refine (show wpAny _ A.in1 (seqItems? (.ref S) >>= _) _ _ s from wpAny_bind (wpAny_seqItems gS rfl ?_))
    refine (show wpAny _ A.in1 (tryCatch (pyNext (.ref I)) _ >>= _) _ _ s from wpAny_bind (wpAny_tryCatch (W.item (j + 1) s _ _ lt st fun v h' tk pv st' kp => ?_)))
    have gS' := kp S _ outw gS
    have old' : ∀ b o, b ∉ wr → b ≠ S → h0.get? b = some o → h'.get? b = some o := fun b o q1 q2 e => kp b o q1 (old b o q1 q2 e)
    refine (show wpAny _ A.in1 (tryCatch (holding [v, v] (richCompare .Lt v best >>= _)) _ >>= _) _ _ _ from wpAny_bind (wpAny_tryCatch (wpAny_holding (wpAny_bind (cmp (j + 1) (argBest bt j) v best _ _ _ old' pv pb ?_)))))
    refine wpAny_bind (wpAny_holding (wpAny_truthy_bool (wpAny_bind (wpAny_letGo (wpAny_pure ?_)))))
    cases hb : bt (j + 1) (argBest bt j) with
    | true =>
      simp only [if_true]
      refine wpAny_bind (wpAny_updateSeq gS' rfl (wpAny_bind (wpAny_letGo ?_)))
      rw [name]
      refine wpAny_pure ⟨plainId_quiet F.plain_min_loop _, ih (j + 1) _ v _ (by omega) lt (W.frame _ _ _ st' fun b hbf o e => (Heap.get?_update_other _ _ (fun q : S = b => out (by rw [q]; exact hbf))).trans e)
        (by simp only [argBest, hb, if_true]; exact pv) (Heap.get?_update_self _ gS' rfl) (fun b o q1 q2 e => (Heap.get?_update_other _ _ (Ne.symm q2)).trans (old' b o q1 q2 e)) fun v' h'' tk'' => fin v' h'' tk''⟩
    | false =>
      simp only [Bool.false_eq_true, if_false]
      refine wpAny_bind (wpAny_letGo ?_)
      rw [name]
      exact wpAny_pure ⟨plainId_quiet F.plain_min_loop _, ih (j + 1) _ best c (by omega) lt st' (by simp only [argBest, hb, Bool.false_eq_true, if_false]; exact pb) gS' old' fun v' h'' tk'' => fin v' h'' tk''⟩
end
section
variable {prog : Program} {w : World} {A : Around} {E : Value → Shared → Prop} {s : Shared}
/-- min(xs), the items compared in the heap as it stands -/
theorem min_list {l : Addr} {items : Array Value} {bt : Nat → Nat → Bool} {Q : Value → Shared → Prop} (free : A.handled = none) (hl : s.heap.IsList l items) (hn : 0 < items.size)
    (cmp : ∀ i j vi vj (s2 : Shared) (Q : Value → Shared → Prop) (E : Value → Shared → Prop), (∀ b o, s.heap.get? b = some o → s2.heap.get? b = some o) → items[i]? = some vi → items[j]? = some vj → Q (.bool (bt i j)) s2 → wpAny (model prog w) A.in1 (richCompare .Lt vi vj) Q E s2)
    (h : ∀ v h' tk, items[argBest bt (items.size - 1)]? = some v → (∀ b o, s.heap.get? b = some o → h'.get? b = some o) → Q v { s with heap := h', toks := tk }) :
    wpAny (model prog w) A (call (.builtin "min") [.ref l]) Q E s := by
  have name : (toString "min" ++ toString ".loop" : String) = "min.loop" := by decide
  have ll : l < s.heap.objs.size := by
    obtain ⟨o, e, _⟩ := hl
    exact Heap.lt_size e
  refine call_function_tree F.kind_min F.plain_min F.entry_min (F.args_min1 _) ?_
  refine (show wpAny _ A.in1 (Builtin.Builtins.bindParams "min" ["key", "default"] 0 ⟨[], []⟩ >>= _) _ _ s from wpAny_bind (wpAny_of_eq (show Builtin.Builtins.bindParams "min" ["key", "default"] 0 ⟨[], []⟩ = pure [none, none] from rfl) ?_))
  refine wpAny_bind (wpAny_pure (wpAny_bind (wpAny_pyIter_list hl (wpAny_bind (wpAny_newObj_type ?_)))))
  rw [name]
  have z1 : (s.heap.push { cls := .type "list_iterator", data := .fields #[.ref l, .int 0 0] }).objs.size = s.heap.objs.size + 1 := Heap.size_push ..
  have W := Walks.list (prog := prog) (w := w) (A := A.in1) (by simp [free]) s.heap.objs.size l (Nat.ne_of_lt ll) items
  have up : ∀ b o, s.heap.get? b = some o → ((s.heap.push { cls := .type "list_iterator", data := .fields #[.ref l, .int 0 0] }).push { cls := .type "list", data := .seq #[] }).get? b = some o := fun b o e => Heap.get?_push_of_some _ (Heap.get?_push_of_some _ e)
  have nw : ∀ b o, s.heap.get? b = some o → b ∉ [s.heap.objs.size] ∧ b ≠ s.heap.objs.size + 1 := fun b o e => by
    have lb := Heap.lt_size e
    exact ⟨by simp only [List.mem_singleton]; exact Nat.ne_of_lt lb, Nat.ne_of_lt (Nat.lt_succ_of_lt lb)⟩
  have gS : ((s.heap.push { cls := .type "list_iterator", data := .fields #[.ref l, .int 0 0] }).push { cls := .type "list", data := .seq #[] }).get? (s.heap.objs.size + 1) = some { cls := .type "list", data := .seq #[] } := z1 ▸ Heap.get?_push_size _ rfl
  have gI : ((s.heap.push { cls := .type "list_iterator", data := .fields #[.ref l, .int 0 0] }).push { cls := .type "list", data := .seq #[] }).get? s.heap.objs.size = some { cls := .type "list_iterator", data := .fields #[.ref l, .int 0 0] } := Heap.get?_push_of_some _ (Heap.get?_push_size _ rfl)
  have out : s.heap.objs.size + 1 ∉ [s.heap.objs.size, l] := by
    simp only [List.mem_cons, List.not_mem_nil, or_false, not_or]
    exact ⟨Nat.ne_of_gt (Nat.lt_succ_self _), Nat.ne_of_gt (Nat.lt_succ_of_lt ll)⟩
  have outw : s.heap.objs.size + 1 ∉ [s.heap.objs.size] := fun q => out (W.sub _ q)
  rw [z1]
  refine wpAny_pure ⟨plainId_quiet F.plain_min_loop _, codeAny_builtin F.entry_min_loop ?_⟩
  rw [Around.under_plainId F.plain_min_loop _]
  refine (show wpAny _ A.in1 (seqItems? (.ref (s.heap.objs.size + 1)) >>= _) _ _ _ from wpAny_bind (wpAny_seqItems gS rfl ?_))
  refine (show wpAny _ A.in1 (tryCatch (pyNext (.ref s.heap.objs.size)) _ >>= _) _ _ _ from wpAny_bind (wpAny_tryCatch (W.item 0 _ _ _ hn ⟨⟨_, gI, rfl, rfl⟩, hl.at fun o e => up l o e⟩ fun v h' tk pv st' kp => ?_)))
  have gS' := kp _ _ outw gS
  refine (show wpAny _ A.in1 (updateSeq (s.heap.objs.size + 1) (fun _ => #[v, v]) >>= _) _ _ _ from wpAny_bind (wpAny_updateSeq gS' rfl ?_))
  rw [name]
  refine wpAny_pure ⟨plainId_quiet F.plain_min_loop _, min_turns (h0 := s.heap) (bt := bt) W (fun i j vi vj s2 Q E old pi pj q => cmp i j vi vj s2 Q E (fun b o e => old b o (nw b o e).1 (nw b o e).2 e) pi pj q) out _ 0 _ v _ rfl hn
    (W.frame _ _ _ st' fun b hbf o e => (Heap.get?_update_other _ _ (fun q : s.heap.objs.size + 1 = b => out (by rw [q]; exact hbf))).trans e) pv (Heap.get?_update_self _ gS' rfl)
    (fun b o q1 q2 e => (Heap.get?_update_other _ _ (Ne.symm q2)).trans (kp b o q1 (up b o e))) fun v' h'' tk'' pv' kp' => h v' h'' tk'' pv' fun b o e => kp' b o (nw b o e).1 (nw b o e).2 e⟩
end
end NuR
end
/-! # NuR6 -/
section
set_option Elab.async false
set_option maxRecDepth 100000
set_option maxHeartbeats 4000000
set_option linter.all false
namespace NuR
open PySem PySem.Spec PyProof.Rows L2
open PySem.AutoSeq1 (wpAny_loadPart')
/-- xs.remove(x), items compared in the heap as it stands: the place j is the first that is equal -/
theorem drop_turns {l : Addr} {its : Array Value} {n : Nat} {x : Value} {e : Value → Bool} {j : Nat} (hj : j < its.size) (yes : e its[j] = true) (few : its.size ≤ sizeLine) : ∀ (k i : Nat), j - i = k → i ≤ j → (∀ m (hm : m < its.size), i ≤ m → m < j → e its[m] = false) →
    Meets (Builtin.«list.remove.loop» ⟨[.ref l, x, rawInt i], []⟩) (fun A R s => s.heap.get? l = some { cls := .type "list", dict := none, data := .seq its n, slots := #[] } ∧ (∀ y, y ∈ its → SeqAt.EqAt A.in1 s y x (e y)) ∧
      R (.ok (.ret .none)) { s with heap := s.heap.update l (Obj.mapSeq fun xs => xs.eraseIdxIfInBounds j) }) := by
  intro k
  induction k with
  | zero =>
    rintro i ek le no prog w A R ⟨hp, gg, d, tk, os⟩ ⟨gl, he, h⟩
    obtain rfl : i = j := by omega
    wp_walk using wpAny_loadPart' gl
    rw [show its[((i : Nat) : Int).toNat]? = some its[i] by simp [hj]]
    refine wpAny_bind (he _ (Array.getElem_mem hj) prog w _ _ ?_)
    rw [yes]
    have fit : (its.eraseIdxIfInBounds i).size ≤ sizeLine + 1 := Nat.le_trans (MeetsSeq.size_erased its _) (Nat.le_succ_of_le few)
    wp_walk using (wpAny_updateSeq gl rfl (hz := few) (_hz' := fit)), wpAny_loadPart' gl
    simpa using h
  | succ k ih =>
    rintro i ek le no prog w A R ⟨hp, gg, d, tk, os⟩ ⟨gl, he, h⟩
    have hi : i < its.size := by omega
    wp_walk using wpAny_loadPart' gl
    rw [show its[((i : Nat) : Int).toNat]? = some its[i] by simp [hi]]
    refine wpAny_bind (he _ (Array.getElem_mem hi) prog w _ _ ?_)
    rw [no i hi (Nat.le_refl _) (by omega)]
    wp_walk
    rw [show ((i : Int) + 1) = ((i + 1 : Nat) : Int) by push_cast; rfl]
    refine ⟨plainId_quiet MeetsSeq.plain_remove_loop _, codeAny_builtin MeetsSeq.entry_remove_loop ?_⟩
    rw [Around.under_plainId MeetsSeq.plain_remove_loop _]
    exact ih (i + 1) (by omega) (by omega) (fun m hm q1 q2 => no m hm (by omega) q2) prog w A R _ ⟨gl, he, h⟩
theorem drop_at {l : Addr} {its : Array Value} {n : Nat} {x : Value} {e : Value → Bool} {j : Nat} (hj : j < its.size) (yes : e its[j] = true) (few : its.size ≤ sizeLine) (no : ∀ m (hm : m < its.size), m < j → e its[m] = false) :
    Meets (Builtin.«list.remove» ⟨[.ref l, x], []⟩) (fun A R s => s.heap.get? l = some { cls := .type "list", dict := none, data := .seq its n, slots := #[] } ∧ (∀ y, y ∈ its → SeqAt.EqAt A.in1 s y x (e y)) ∧
      R (.ok (.ret .none)) { s with heap := s.heap.update l (Obj.mapSeq fun xs => xs.eraseIdxIfInBounds j) }) := by
  rintro prog w A R ⟨hp, gg, d, tk, os⟩ ⟨gl, he, h⟩
  wp_walk using wpAny_loadPart' gl
  refine ⟨plainId_quiet MeetsSeq.plain_remove_loop _, codeAny_builtin MeetsSeq.entry_remove_loop ?_⟩
  rw [Around.under_plainId MeetsSeq.plain_remove_loop _]
  exact drop_turns hj yes few _ 0 rfl (Nat.zero_le _) (fun m hm _ q => no m hm q) prog w A R _ ⟨gl, he, h⟩
section
variable {X : Cx}
theorem valsErase : ∀ {xs : List V} {us : List Value}, Vals xs us → ∀ j, Vals (xs.eraseIdx j) (us.eraseIdx j)
  | _, _, .nil, j => by rw [List.eraseIdx_nil, List.eraseIdx_nil]; exact .nil
  | _, _, .cons r t, 0 => t
  | _, _, .cons r t, j + 1 => .cons r (valsErase t j)
def rRemD (K : PySem.W.Frag) : V → List V → Hp → VK → Prop := fun x vs H Q => ∃ (l : Addr) (y : V) (d : PyData) (xs : List V) (ds : List PyData) (j : Nat) (z : PyData), x = .ref l ∧ vs = [y] ∧ H l = some (.lst xs) ∧ DpAll K H xs ds ∧ Dp K H y d ∧
  SeqAt.shaped (.list ds) = true ∧ SeqAt.shaped d = true ∧ d.depth ≤ 8 ∧ ds[j]? = some z ∧ PyData.eqv z d = true ∧ (∀ (m : Nat) (z' : PyData), m < j → ds[m]? = some z' → PyData.eqv z' d = false) ∧ Q .non (upd H l (.lst (xs.eraseIdx j)))
theorem mt_removeD (hu : X.A.units + 64 < cLine) : MtM X "list.remove" (rRemD X.K) := by
  intro pins s σ H x vs v us Q I rx rxs h
  obtain ⟨l, y, d, xs, ds, j, z, rfl, rfl, hH, hds, hy, sl, sd, sh, hz, eq, no, q⟩ := h
  cases rx
  obtain ⟨u, rfl, ru⟩ := rxs.one
  obtain ⟨bs, rd⟩ := Dp.reads I d y u hy ru
  have lay : PyData.canLayAll0 ds = true := SeqAt.canLay_of_shaped sl
  have room : X.A.units + 1 + min (PyData.depthAll ds) d.depth < cLine := by omega
  obtain ⟨few, its, n, rv, len, gl⟩ := I.lstM hH
  obtain ⟨as, ra⟩ := Dp.readsAll I ds _ its hds rv
  have hn : its.length = ds.length := SeqAt.ReadsAll.length ds its as ra
  have hmap : its.map (SeqAt.readOf s.heap) = ds := SeqAt.readsAll_map ds its as lay ra
  have hj : j < its.toArray.size := by
    have := (List.getElem?_eq_some_iff.mp hz).1
    simp only [List.size_toArray]
    omega
  have at_ : ∀ (m : Nat) (hm : m < its.toArray.size) (z' : PyData), ds[m]? = some z' → SeqAt.readOf s.heap its.toArray[m] = z' := fun m hm z' hz' => by
    have hm' : m < its.length := by simpa using hm
    rw [← hmap, List.getElem?_map, List.getElem?_eq_getElem hm'] at hz'
    simpa using hz'
  refine call_meets PySem.F.slot_list_remove ⟨_, gl, rfl⟩ PySem.F.entry_list_remove (PySem.F.args_list_remove_2 _ _) (drop_at (l := l) (n := n) (x := u) (e := fun y => PyData.eqv (SeqAt.readOf s.heap y) d) hj ?_ (by simp only [List.size_toArray]; omega) ?_)
    ⟨gl, SeqAt.items_eqAt (vs := its.toArray) (show ReadsAll s.heap its.toArray.toList ds as from ra) rd lay (SeqAt.canLay_of_shaped sd) room, ?_⟩
  · show PyData.eqv (SeqAt.readOf s.heap its.toArray[j]) d = true
    rw [at_ j hj z hz, eq]
  · intro m hm hmj
    have hmd : m < ds.length := by
      have : m < its.length := by simpa using hm
      omega
    show PyData.eqv (SeqAt.readOf s.heap its.toArray[m]) d = false
    rw [at_ m hm _ (List.getElem?_eq_getElem hmd)]
    exact no m _ hmj (List.getElem?_eq_getElem hmd)
  · refine ⟨.non, _, I.lset (its' := its.eraseIdx j) (t' := s.toks) hH gl ?_ (valsErase rv j) ?_, rfl, q⟩
    · show its.toArray.eraseIdxIfInBounds j = (its.eraseIdx j).toArray
      rw [List.eraseIdxIfInBounds_toArray]
    · exact Nat.le_trans (List.length_eraseIdx_le ..) few
end
end NuR
end
/-! # NuR7 -/
section
set_option Elab.async false
set_option maxRecDepth 100000
set_option maxHeartbeats 4000000
set_option linter.all false
namespace NuR
open PySem PySem.Spec PyProof.Rows L2
/-- what is possible, as data: (k, t, (c, ..)) -/
abbrev IKey := Int × Int × List Int
def kd (z : IKey) : PyData := .tuple [.int z.1, .int z.2.1, .tuple (z.2.2.map PyData.int)]
def kLt (a b : IKey) : Bool := if a.1 = b.1 then (if a.2.1 = b.2.1 then HT.lexLt a.2.2 b.2.2 else decide (a.2.1 < b.2.1)) else decide (a.1 < b.1)
theorem ints_lay : ∀ l : List Int, PyData.canLayAll0 (l.map PyData.int) = true
  | [] => by simp [PyData.canLayAll0]
  | a :: l => by simp [PyData.canLayAll0, PyData.canLay0, ints_lay l]
theorem ints_depth : ∀ l : List Int, PyData.depthAll (l.map PyData.int) = 0
  | [] => by simp [PyData.depthAll]
  | a :: l => by simp [PyData.depthAll, PyData.depth, ints_depth l]
theorem ints_eqv : ∀ a b : List Int, PyData.eqvAll (a.map PyData.int) (b.map PyData.int) = decide (a = b)
  | [], [] => by simp [PyData.eqvAll]
  | [], y :: b => by simp [PyData.eqvAll]
  | x :: a, [] => by simp [PyData.eqvAll]
  | x :: a, y :: b => by
    simp only [List.map_cons, PyData.eqvAll, PyData.eqv, ints_eqv a b, List.cons.injEq]
    by_cases h : x = y <;> by_cases h2 : a = b <;> simp [h, h2]
theorem kd_lay (z : IKey) : (kd z).canLay0 = true := by simp [kd, PyData.canLay0, PyData.canLayAll0, ints_lay]
theorem kd_depth (z : IKey) : (kd z).depth = 2 := by simp [kd, PyData.depth, PyData.depthAll, ints_depth]
theorem kds_lay : ∀ l : List IKey, PyData.canLayAll0 (l.map kd) = true
  | [] => by simp [PyData.canLayAll0]
  | a :: l => by simp [PyData.canLayAll0, kd_lay a, kds_lay l]
theorem kds_depth : ∀ l : List IKey, PyData.depthAll (l.map kd) ≤ 2
  | [] => by simp [PyData.depthAll]
  | a :: l => by
    have h1 := kds_depth l
    have h2 := kd_depth a
    simp only [List.map_cons, PyData.depthAll]
    omega
theorem kd_shaped (z : IKey) : SeqAt.shaped (kd z) = true := by
  show ((kd z).canLay0 && decide ((kd z).depth ≤ 64)) = true
  rw [kd_lay, kd_depth]
  decide
theorem kds_shaped (l : List IKey) : SeqAt.shaped (.list (l.map kd)) = true := by
  have h := kds_depth l
  show (PyData.canLay0 (.list (l.map kd)) && decide (PyData.depth (.list (l.map kd)) ≤ 64)) = true
  rw [Bool.and_eq_true]
  refine ⟨by simp only [PyData.canLay0]; exact kds_lay l, decide_eq_true ?_⟩
  simp only [PyData.depth]
  omega
theorem kd_eqv (a b : IKey) : PyData.eqv (kd a) (kd b) = decide (a = b) := by
  obtain ⟨a1, a2, a3⟩ := a
  obtain ⟨b1, b2, b3⟩ := b
  simp only [kd, PyData.eqv, PyData.eqvAll, ints_eqv, Prod.mk.injEq, Bool.and_true]
  by_cases h1 : a1 = b1 <;> by_cases h2 : a2 = b2 <;> by_cases h3 : a3 = b3 <;> simp [h1, h2, h3]
theorem reads_int {h : Heap} {v : Value} {i : Int} {as : List Addr} (r : Reads h v (.int i) as) : ∃ t, v = .int i t := by
  cases r
  exact ⟨_, rfl⟩
theorem reads_ints {h : Heap} : ∀ {vs : List Value} {l : List Int} {as : List Addr}, ReadsAll h vs (l.map PyData.int) as → IntsAre vs l
  | _, [], _, r => by
    cases r
    exact .nil
  | _, i :: l, _, r => by
    cases r with
    | cons r1 r2 =>
      obtain ⟨t, rfl⟩ := reads_int r1
      exact .cons _ _ (reads_ints r2)
theorem lexLt_self : ∀ l : List Int, HT.lexLt l l = false
  | [] => HT.lexLt_nil_nil
  | a :: l => by rw [HT.lexLt_cons, if_pos rfl, lexLt_self l]
section
variable {A : Around} {s : Shared}
theorem key_parts {h : Heap} {v : Value} {z : IKey} {as : List Addr} (r : Reads h v (kd z) as) : ∃ (a c : Addr) (t1 t2 : Tok) (its : Array Value) (cs : List Addr), v = .ref a ∧ h.IsTuple a #[.int z.1 t1, .int z.2.1 t2, .ref c] ∧ h.IsTuple c its ∧ IntsAre its.toList z.2.2 ∧ Reads h (.ref c) (.tuple (z.2.2.map PyData.int)) cs := by
  cases r with
  | @tuple a o vs n _ _ g1 g2 g3 g4 =>
    generalize ev : vs.toList = l at g4
    have ev : vs = l.toArray := by rw [← ev]
    subst ev
    cases g4 with
    | @cons v1 l1 _ _ _ _ r1 q1 =>
      cases q1 with
      | @cons v2 l2 _ _ _ _ r2 q2 =>
        cases q2 with
        | @cons v3 l3 _ _ _ _ r3 q3 =>
          cases q3
          obtain ⟨t1, rfl⟩ := reads_int r1
          obtain ⟨t2, rfl⟩ := reads_int r2
          have r3' := r3
          cases r3 with
          | @tuple c o' vs' n' _ _ k1 k2 k3 k4 => exact ⟨a, c, t1, t2, vs', _, rfl, ⟨o, g1, g2, n, g3⟩, ⟨o', k1, k2, n', k3⟩, reads_ints k4, r3'⟩
def keyE (a b : IKey) : Nat → Bool
  | 0 => decide (a.1 = b.1)
  | 1 => decide (a.2.1 = b.2.1)
  | _ => decide (a.2.2 = b.2.2)
def keyR (a b : IKey) : Nat → Bool
  | 0 => decide (a.1 < b.1)
  | 1 => decide (a.2.1 < b.2.1)
  | _ => HT.lexLt a.2.2 b.2.2
/-- two keys are compared -/
theorem key_lt {v u : Value} {a b : IKey} {as bs : List Addr} (ra : Reads s.heap v (kd a) as) (rb : Reads s.heap u (kd b) bs) (hu : A.units + 9 < cLine) : Ob.RcOp .Lt A s v u (kLt a b) := by
  obtain ⟨p, c, t1, t2, its, cs, rfl, ip, ic, ii, rc⟩ := key_parts ra
  obtain ⟨p', c', t1', t2', its', cs', rfl, ip', ic', ii', rc'⟩ := key_parts rb
  have HE : ∀ j (h1 : j < (#[.int a.1 t1, .int a.2.1 t2, .ref c] : Array Value).size) (h2 : j < (#[.int b.1 t1', .int b.2.1 t2', .ref c'] : Array Value).size), SeqAt.EqAt A.in1 s (#[.int a.1 t1, .int a.2.1 t2, .ref c] : Array Value)[j] (#[.int b.1 t1', .int b.2.1 t2', .ref c'] : Array Value)[j] (keyE a b j) := fun j h1 h2 => by
    match j, h1, h2 with
    | 0, _, _ =>
      have e : (a.1 == b.1) = keyE a b 0 := by show _ = decide (a.1 = b.1); by_cases q : a.1 = b.1 <;> simp [q]
      exact e ▸ SeqAt.EqAt.int_int a.1 t1 b.1 t1'
    | 1, _, _ =>
      have e : (a.2.1 == b.2.1) = keyE a b 1 := by show _ = decide (a.2.1 = b.2.1); by_cases q : a.2.1 = b.2.1 <;> simp [q]
      exact e ▸ SeqAt.EqAt.int_int a.2.1 t2 b.2.1 t2'
    | 2, _, _ =>
      have E := SeqAt.eqAt_reads _ _ A.in1 s _ _ _ _ rc rc' (by simp only [PyData.canLay0]; exact ints_lay _) (by simp only [PyData.canLay0]; exact ints_lay _) (by simp only [PyData.depth, ints_depth]; show A.units + 1 + _ < cLine; omega)
      rw [show PyData.eqv (.tuple (a.2.2.map PyData.int)) (.tuple (b.2.2.map PyData.int)) = keyE a b 2 by simp only [PyData.eqv, ints_eqv]; rfl] at E
      exact E
    | j + 3, h1, _ => exact absurd h1 (by simp)
  have HR : ∀ j (h1 : j < (#[.int a.1 t1, .int a.2.1 t2, .ref c] : Array Value).size) (h2 : j < (#[.int b.1 t1', .int b.2.1 t2', .ref c'] : Array Value).size), keyE a b j = false → Ob.RcOp .Lt A.in1 s (#[.int a.1 t1, .int a.2.1 t2, .ref c] : Array Value)[j] (#[.int b.1 t1', .int b.2.1 t2', .ref c'] : Array Value)[j] (keyR a b j) := fun j h1 h2 _ => by
    match j, h1, h2 with
    | 0, _, _ => exact Ob.RcOp.lt_int a.1 b.1 t1 t1'
    | 1, _, _ => exact Ob.RcOp.lt_int a.2.1 b.2.1 t2 t2'
    | 2, _, _ => exact fun prog w E Q h => HT.lt_tupInts (A := A.in1) ic ic' ii ii' (by show A.units + 1 < cLine; omega) h
    | j + 3, h1, _ => exact absurd h1 (by simp)
  have R := Ob.RcOp.tuples_lt (A := A) (s := s) ip ip' (by omega) HE HR
  have e : Ob.lexAt (keyE a b) (keyR a b) false 0 3 = kLt a b := by
    simp only [Ob.lexAt, kLt, keyE, keyR, decide_eq_true_eq]
    by_cases q1 : a.1 = b.1
    · by_cases q2 : a.2.1 = b.2.1
      · by_cases q3 : a.2.2 = b.2.2
        · simp [q1, q2, q3, lexLt_self]
        · simp [q1, q2, q3]
      · simp [q1, q2]
    · simp [q1]
  rw [← e]
  exact R
end
end NuR
end
/-! # NuOcc -/
section
set_option linter.all false
namespace Nu
open Sq63

def usedOf (u : Unfolding) (e : Nat) : List Nat := ((u.events[e]?).map fun x => x.used).getD []
def needsE (u : Unfolding) (e : Nat) : List Nat := ((u.events[e]?).map fun x => x.needs).getD []
def placeOf (u : Unfolding) (c : Nat) : Nat := ((u.conds[c]?).map fun x => x.place).getD 0
def makerOf (u : Unfolding) (c : Nat) : Option Nat := (u.conds[c]?).bind fun x => x.by_
def needAll (u : Unfolding) (cs : List Nat) : List Nat := cs.foldl (fun s c => Sq63.union (needsOf u c) s) []

theorem needsOf_eq (u : Unfolding) (c : Nat) : needsOf u c = match makerOf u c with
    | some e => needsE u e
    | none => [] := by
  unfold needsOf makerOf needsE
  cases u.conds[c]? with
  | none => rfl
  | some x => cases x with | mk p b => cases b <;> rfl
theorem mem_needAll {u : Unfolding} {cs : List Nat} {x : Nat} : x ∈ needAll u cs ↔ ∃ c, c ∈ cs ∧ x ∈ needsOf u c := by
  unfold needAll
  rw [mem_un_fold]
  simp
theorem needAll_rise (u : Unfolding) (cs : List Nat) : (needAll u cs).Pairwise (· < ·) := un_fold_rise List.Pairwise.nil

def Clash (u : Unfolding) (a b : List Nat) : Prop := ∃ e, e ∈ a ∧ ∃ f, f ∈ b ∧ e ≠ f ∧ ∃ c, c ∈ usedOf u e ∧ c ∈ usedOf u f
theorem clash_iff {u : Unfolding} {a b : List Nat} : clash u a b = true ↔ Clash u a b := by
  show (a.any fun e => b.any fun f => e != f && meets (usedOf u e) (usedOf u f)) = true ↔ _
  unfold Clash
  simp only [List.any_eq_true, Bool.and_eq_true, meets_iff, bne_iff_ne]
theorem Clash.symm {u : Unfolding} {a b : List Nat} (h : Clash u a b) : Clash u b a := by
  obtain ⟨e, he, f, hf, hn, c, h1, h2⟩ := h
  exact ⟨f, hf, e, he, Ne.symm hn, c, h2, h1⟩
theorem Clash.mono {u : Unfolding} {a b a' b' : List Nat} (h : Clash u a b) (ha : ∀ x, x ∈ a → x ∈ a') (hb : ∀ x, x ∈ b → x ∈ b') : Clash u a' b' := by
  obtain ⟨e, he, f, hf, hn, c, h1, h2⟩ := h
  exact ⟨e, ha e he, f, hb f hf, hn, c, h1, h2⟩
theorem together_iff {u : Unfolding} {cs : List Nat} : together u cs = true ↔ ¬ Clash u (needAll u cs) (needAll u cs) ∧ ∀ c, c ∈ cs → ∀ x, x ∈ needAll u cs → c ∉ usedOf u x := by
  show (!clash u (needAll u cs) (needAll u cs) && cs.all fun c => (needAll u cs).all fun x => !(usedOf u x).contains c) = true ↔ _
  simp only [Bool.and_eq_true, Bool.not_eq_true', List.all_eq_true, ← clash_iff]
  simp
def Co (u : Unfolding) (c d : Nat) : Prop := ¬ Clash u (needsOf u c) (needsOf u d) ∧ (∀ x, x ∈ needsOf u d → c ∉ usedOf u x) ∧ (∀ x, x ∈ needsOf u c → d ∉ usedOf u x)
theorem Co.symm {u : Unfolding} {c d : Nat} (h : Co u c d) : Co u d c := ⟨fun q => h.1 q.symm, h.2.2, h.2.1⟩
theorem together_co {u : Unfolding} {cs : List Nat} : together u cs = true ↔ ∀ c, c ∈ cs → ∀ d, d ∈ cs → Co u c d := by
  rw [together_iff]
  constructor
  · rintro ⟨h1, h2⟩ c hc d hd
    refine ⟨fun q => h1 (q.mono ?_ ?_), fun x hx => h2 c hc x (mem_needAll.mpr ⟨d, hd, hx⟩), fun x hx => h2 d hd x (mem_needAll.mpr ⟨c, hc, hx⟩)⟩
    · exact fun x hx => mem_needAll.mpr ⟨c, hc, hx⟩
    · exact fun x hx => mem_needAll.mpr ⟨d, hd, hx⟩
  · intro h
    constructor
    · rintro ⟨e, he, f, hf, hn, k, h1, h2⟩
      obtain ⟨c, hc, he⟩ := mem_needAll.mp he
      obtain ⟨d, hd, hf⟩ := mem_needAll.mp hf
      exact (h c hc d hd).1 ⟨e, he, f, hf, hn, k, h1, h2⟩
    · intro c hc x hx
      obtain ⟨d, hd, hx⟩ := mem_needAll.mp hx
      exact (h c hc d hd).2.1 x hx
theorem together_sub {u : Unfolding} {cs ds : List Nat} (h : together u cs = true) (hs : ∀ c, c ∈ ds → c ∈ cs) : together u ds = true :=
  together_co.mpr fun c hc d hd => together_co.mp h c (hs c hc) d (hs d hd)

/-! ### what is unfolded is well made -/
structure EvOk (g : Net) (u : Unfolding) (e : Nat) (x : Event) : Prop where
  tr : ∃ t, g.ts[x.t]? = some t ∧ x.used.map (placeOf u) = t.takes
  lt : ∀ c, c ∈ x.used → c < u.conds.length
  old : ∀ c, c ∈ x.used → ∀ f, makerOf u c = some f → f < e
  op : ∀ c, c ∈ x.used → u.open_ c = true
  needs : x.needs = Sq63.insert e (needAll u x.used)
  nle : ∀ f, f ∈ x.needs → f ≤ e
  dc : ∀ f, f ∈ x.needs → ∀ k, k ∈ needsE u f → k ∈ x.needs
  tog : together u x.used = true
  cf : ¬ Clash u x.needs x.needs
  uniq : ∀ f y, u.events[f]? = some y → y.t = x.t → y.used = x.used → f = e
def madeOf (u : Unfolding) (e : Nat) : List Nat := (List.range u.conds.length).filter fun c => makerOf u c == some e
def firstOf (u : Unfolding) : List Nat := (List.range u.conds.length).filter fun c => makerOf u c == none
structure Good (g : Net) (m0 : Places) (u : Unfolding) : Prop where
  mkr : ∀ c e, makerOf u c = some e → e < u.events.length
  ev : ∀ e x, u.events[e]? = some x → EvOk g u e x
  made : ∀ e x t, u.events[e]? = some x → g.ts[x.t]? = some t → (madeOf u e).map (placeOf u) = t.puts
  first : (firstOf u).map (placeOf u) = m0

theorem getD_map_some {α β : Type} {o : Option α} {x : α} {f : α → β} {d : β} (h : o = some x) : (o.map f).getD d = f x := by rw [h]; rfl
theorem usedOf_some {u : Unfolding} {e : Nat} {x : Event} (h : u.events[e]? = some x) : usedOf u e = x.used := getD_map_some h
theorem needsE_some {u : Unfolding} {e : Nat} {x : Event} (h : u.events[e]? = some x) : needsE u e = x.needs := getD_map_some h
theorem used_ev {u : Unfolding} {e c : Nat} (h : c ∈ usedOf u e) : ∃ x, u.events[e]? = some x ∧ c ∈ x.used := by
  unfold usedOf at h
  cases q : u.events[e]? with
  | none => rw [q] at h; simp at h
  | some x => rw [q] at h; exact ⟨x, rfl, h⟩
theorem needs_ev {u : Unfolding} {e f : Nat} (h : f ∈ needsE u e) : ∃ x, u.events[e]? = some x ∧ f ∈ x.needs := by
  unfold needsE at h
  cases q : u.events[e]? with
  | none => rw [q] at h; simp at h
  | some x => rw [q] at h; exact ⟨x, rfl, h⟩
theorem needsOf_mem {u : Unfolding} {c f : Nat} (h : f ∈ needsOf u c) : ∃ e, makerOf u c = some e ∧ f ∈ needsE u e := by
  rw [needsOf_eq] at h
  split at h
  · next e q => exact ⟨e, q, h⟩
  · simp at h
theorem needsOf_some {u : Unfolding} {c e : Nat} (h : makerOf u c = some e) : needsOf u c = needsE u e := by rw [needsOf_eq, h]
theorem needsOf_none {u : Unfolding} {c : Nat} (h : makerOf u c = none) : needsOf u c = [] := by rw [needsOf_eq, h]

variable {g : Net} {m0 : Places} {u : Unfolding}
theorem EvOk.self {e : Nat} {x : Event} (h : EvOk g u e x) : e ∈ x.needs := by rw [h.needs]; exact mem_insert.mpr (Or.inl rfl)
theorem EvOk.rise {e : Nat} {x : Event} (h : EvOk g u e x) : x.needs.Pairwise (· < ·) := by rw [h.needs]; exact insert_rise (needAll_rise _ _)
theorem Good.needsE_self (G : Good g m0 u) {e : Nat} (h : e < u.events.length) : e ∈ needsE u e := by
  have q := List.getElem?_eq_getElem h
  rw [needsE_some q]
  exact (G.ev e _ q).self
theorem Good.needsE_le (G : Good g m0 u) {e f : Nat} (h : f ∈ needsE u e) : f ≤ e ∧ e < u.events.length := by
  obtain ⟨x, q, h⟩ := needs_ev h
  exact ⟨(G.ev e x q).nle f h, (List.getElem?_eq_some_iff.mp q).1⟩
theorem Good.needsOf_lt (G : Good g m0 u) {c f : Nat} (h : f ∈ needsOf u c) : f < u.events.length := by
  obtain ⟨e, q, h⟩ := needsOf_mem h
  have := G.needsE_le h
  omega
theorem Good.used_lt (G : Good g m0 u) {e c : Nat} (h : c ∈ usedOf u e) : c < u.conds.length := by
  obtain ⟨x, q, h⟩ := used_ev h
  exact (G.ev e x q).lt c h
/-- a condition can be there with itself -/
theorem Good.co_self (G : Good g m0 u) (c : Nat) : Co u c c := by
  cases q : makerOf u c with
  | none => rw [Co, needsOf_none q]; exact ⟨by rintro ⟨e, he, _⟩; simp at he, by simp, by simp⟩
  | some e =>
    have he := G.mkr c e q
    have hx := List.getElem?_eq_getElem he
    have E := G.ev e _ hx
    rw [Co, needsOf_some q, needsE_some hx]
    have k : ∀ f, f ∈ (u.events[e]).needs → c ∉ usedOf u f := by
      intro f hf hc
      obtain ⟨y, hy, hc⟩ := used_ev hc
      have := (G.ev f y hy).old c hc e q
      have := E.nle f hf
      omega
    exact ⟨E.cf, k, k⟩
end Nu
end
/-! # NuAdd -/
section
set_option linter.all false
namespace Nu
open Sq63
variable {g : Net} {m0 : Places} {u : Unfolding}

/-! ### choices, possible -/
structure Fits (u : Unfolding) (ps cs : List Nat) : Prop where
  lt : ∀ c, c ∈ cs → c < u.conds.length
  pl : cs.map (placeOf u) = ps
  op : ∀ c, c ∈ cs → u.open_ c = true
theorem Fits.len {ps cs : List Nat} (h : Fits u ps cs) : cs.length = ps.length := by rw [← h.pl, List.length_map]
theorem place_some {c p : Nat} (h : c < u.conds.length) : ((u.conds[c]?).map fun x => x.place) = some p ↔ placeOf u c = p := by
  unfold placeOf
  rw [List.getElem?_eq_getElem h]
  simp
theorem choices_iff : ∀ (ps done cs : List Nat), together u done = true → (cs ∈ choices u ps done ↔ ∃ r, cs = done ++ r ∧ Fits u ps r ∧ together u cs = true)
  | [], done, cs, h => by
    show cs ∈ [done] ↔ _
    rw [List.mem_singleton]
    constructor
    · rintro rfl
      exact ⟨[], by simp, ⟨by simp, rfl, by simp⟩, h⟩
    · rintro ⟨r, h1, h2, _⟩
      have := h2.len
      have : r = [] := List.eq_nil_of_length_eq_zero (by simpa using this)
      rw [h1, this, List.append_nil]
  | p :: l, done, cs, h => by
    unfold choices
    simp only [List.mem_flatMap, List.mem_filter, List.mem_range, Bool.and_eq_true, beq_iff_eq]
    constructor
    · rintro ⟨c, ⟨hc, hp, ho, ht⟩, hcs⟩
      obtain ⟨r, h1, h2, h3⟩ := (choices_iff l (done ++ [c]) cs ht).mp hcs
      refine ⟨c :: r, by rw [h1]; simp, ⟨?_, ?_, ?_⟩, h3⟩
      · intro d hd
        rcases List.mem_cons.mp hd with rfl | hd
        · exact hc
        · exact h2.lt d hd
      · rw [List.map_cons, h2.pl, (place_some hc).mp hp]
      · intro d hd
        rcases List.mem_cons.mp hd with rfl | hd
        · exact ho
        · exact h2.op d hd
    · rintro ⟨r, h1, h2, h3⟩
      cases r with
      | nil => have := h2.len; simp at this
      | cons c r =>
        have hpl := h2.pl
        rw [List.map_cons, List.cons.injEq] at hpl
        have hc := h2.lt c (by simp)
        have ht : together u (done ++ [c]) = true := together_sub h3 (by rw [h1]; intro d hd; simp at hd ⊢; grind)
        refine ⟨c, ⟨hc, (place_some hc).mpr hpl.1, h2.op c (by simp), ht⟩, (choices_iff l (done ++ [c]) cs ht).mpr ⟨r, by rw [h1]; simp, ⟨fun d hd => h2.lt d (by simp [hd]), hpl.2, fun d hd => h2.op d (by simp [hd])⟩, h3⟩⟩
theorem together_nil (u : Unfolding) : together u [] = true := together_co.mpr (by simp)
theorem choices_nil {ps cs : List Nat} : cs ∈ choices u ps [] ↔ Fits u ps cs ∧ together u cs = true := by
  rw [choices_iff ps [] cs (together_nil u)]
  constructor
  · rintro ⟨r, h1, h2, h3⟩
    rw [List.nil_append] at h1
    subst h1
    exact ⟨h2, h3⟩
  · rintro ⟨h1, h2⟩
    exact ⟨cs, rfl, h1, h2⟩
structure Poss (g : Net) (u : Unfolding) (t : Nat) (cs : List Nat) : Prop where
  fit : ∃ tr, g.ts[t]? = some tr ∧ Fits u tr.takes cs
  tog : together u cs = true
  new : ∀ (e : Nat) (x : Event), u.events[e]? = some x → x.t = t → x.used ≠ cs
theorem possible_iff {t : Nat} {cs nd : List Nat} : (t, (cs, nd)) ∈ possible g u ↔ Poss g u t cs ∧ nd = needAll u cs := by
  unfold possible
  simp only [List.mem_flatMap, List.mem_map, List.mem_filter, Prod.mk.injEq, choices_nil, Bool.not_eq_true', List.any_eq_false, Bool.and_eq_true, beq_iff_eq, not_and]
  constructor
  · rintro ⟨⟨t', tr⟩, hz, cs', ⟨⟨h1, h2⟩, h3⟩, rfl, rfl, rfl⟩
    rw [List.mem_iff_getElem?] at hz
    obtain ⟨i, hi⟩ := hz
    rw [List.getElem?_zip_eq_some] at hi
    obtain ⟨h4, h5⟩ := hi
    have h4' := List.getElem?_eq_some_iff.mp h4
    obtain ⟨h6, h7⟩ := h4'
    rw [List.getElem_range] at h7
    subst h7
    refine ⟨⟨⟨tr, h5, h1⟩, h2, fun e x he ht => ?_⟩, rfl⟩
    exact h3 x (List.mem_of_getElem? he) ht
  · rintro ⟨⟨⟨tr, h1, h2⟩, h3, h4⟩, rfl⟩
    refine ⟨(t, tr), ?_, cs, ⟨⟨h2, h3⟩, fun x hx ht => ?_⟩, rfl, rfl, rfl⟩
    · rw [List.mem_iff_getElem?]
      have := (List.getElem?_eq_some_iff.mp h1).1
      exact ⟨t, List.getElem?_zip_eq_some.mpr ⟨by rw [List.getElem?_eq_getElem (by simpa using this)]; simp, h1⟩⟩
    · obtain ⟨e, he⟩ := List.mem_iff_getElem?.mp hx
      exact h4 e x he ht

/-! ### the soonest -/
def keyLt (a b : Nat × Nat × List Nat) : Prop := a.1 < b.1 ∨ (a.1 = b.1 ∧ (a.2.1 < b.2.1 ∨ (a.2.1 = b.2.1 ∧ before a.2.2 b.2.2 = true)))
def keyOf (x : Possible) : Nat × Nat × List Nat := (x.2.2.length, x.1, x.2.1)
theorem sooner_iff {a b : Possible} : sooner a b = true ↔ keyLt (keyOf a) (keyOf b) := by
  unfold sooner keyLt keyOf
  simp only [Bool.or_eq_true, Bool.and_eq_true, decide_eq_true_eq, beq_iff_eq]
theorem keyLt_trans {a b c : Nat × Nat × List Nat} (h1 : keyLt a b) (h2 : keyLt b c) : keyLt a c := by
  unfold keyLt at *
  rcases h1 with h1 | ⟨h1, h1' | ⟨h1', h1''⟩⟩ <;> rcases h2 with h2 | ⟨h2, h2' | ⟨h2', h2''⟩⟩
  all_goals first
    | (left; omega)
    | (right; refine ⟨by omega, ?_⟩; first | (left; omega) | (right; exact ⟨by omega, before_trans h1'' h2''⟩))
theorem keyLt_irrefl (a : Nat × Nat × List Nat) : ¬ keyLt a a := by
  unfold keyLt
  rw [before_irrefl]
  simp
theorem keyLt_total (a b : Nat × Nat × List Nat) : keyLt a b ∨ a = b ∨ keyLt b a := by
  obtain ⟨a1, a2, a3⟩ := a
  obtain ⟨b1, b2, b3⟩ := b
  unfold keyLt
  simp only [Prod.mk.injEq]
  rcases before_total a3 b3 with h | h | h
  · grind
  · grind
  · grind
def soonStep (m : Option Possible) (x : Possible) : Option Possible := match m with
  | none => some x
  | some y => if sooner x y = true then some x else some y
theorem soonest_eq (l : List Possible) : soonest l = l.foldl soonStep none := rfl
theorem soon_fold : ∀ (l : List Possible) (y : Possible), ∃ z, l.foldl soonStep (some y) = some z ∧ (z = y ∨ z ∈ l) ∧ ¬ keyLt (keyOf y) (keyOf z) ∧ ∀ w, w ∈ l → ¬ keyLt (keyOf w) (keyOf z)
  | [], y => ⟨y, rfl, Or.inl rfl, keyLt_irrefl _, by simp⟩
  | x :: l, y => by
    rw [List.foldl_cons]
    by_cases c : sooner x y = true
    · have e : soonStep (some y) x = some x := if_pos c
      rw [e]
      obtain ⟨z, h1, h2, h3, h4⟩ := soon_fold l x
      refine ⟨z, h1, Or.inr ?_, fun q => ?_, fun w hw => ?_⟩
      · rcases h2 with rfl | h2 <;> simp [*]
      · exact h3 (keyLt_trans (sooner_iff.mp c) q)
      · rcases List.mem_cons.mp hw with rfl | hw
        · exact h3
        · exact h4 w hw
    · have e : soonStep (some y) x = some y := if_neg c
      rw [e]
      obtain ⟨z, h1, h2, h3, h4⟩ := soon_fold l y
      refine ⟨z, h1, ?_, h3, fun w hw => ?_⟩
      · rcases h2 with rfl | h2
        · exact Or.inl rfl
        · exact Or.inr (by simp [h2])
      · rcases List.mem_cons.mp hw with rfl | hw
        · intro q
          rcases keyLt_total (keyOf w) (keyOf y) with k | k | k
          · exact c (sooner_iff.mpr k)
          · rw [k] at q; exact h3 q
          · exact h3 (keyLt_trans k q)
        · exact h4 w hw
theorem soonest_none {l : List Possible} : soonest l = none ↔ l = [] := by
  rw [soonest_eq]
  cases l with
  | nil => simp
  | cons x l =>
    obtain ⟨z, h1, _⟩ := soon_fold l x
    have : (x :: l).foldl soonStep none = some z := h1
    rw [this]
    simp
theorem soonest_some {l : List Possible} {x : Possible} (h : soonest l = some x) : x ∈ l ∧ ∀ w, w ∈ l → ¬ keyLt (keyOf w) (keyOf x) := by
  rw [soonest_eq] at h
  cases l with
  | nil => simp at h
  | cons y l =>
    obtain ⟨z, h1, h2, h3, h4⟩ := soon_fold l y
    have : (y :: l).foldl soonStep none = some z := h1
    rw [this] at h
    cases h
    refine ⟨?_, fun w hw => ?_⟩
    · rcases h2 with rfl | h2 <;> simp [*]
    · rcases List.mem_cons.mp hw with rfl | hw
      · exact h3
      · exact h4 w hw
/-- the least of what is possible is the soonest -/
theorem soonest_of {t : Nat} {cs : List Nat} (h : Poss g u t cs) (hm : ∀ t' cs', Poss g u t' cs' → ¬ keyLt ((needAll u cs').length, t', cs') ((needAll u cs).length, t, cs)) :
    soonest (possible g u) = some (t, (cs, needAll u cs)) := by
  have hin : (t, (cs, needAll u cs)) ∈ possible g u := possible_iff.mpr ⟨h, rfl⟩
  cases q : soonest (possible g u) with
  | none => rw [soonest_none] at q; rw [q] at hin; simp at hin
  | some y =>
    obtain ⟨t', cs', nd'⟩ := y
    obtain ⟨h1, h2⟩ := soonest_some q
    obtain ⟨h3, rfl⟩ := possible_iff.mp h1
    have k1 := h2 _ hin
    have k2 := hm t' cs' h3
    rcases keyLt_total ((needAll u cs').length, t', cs') ((needAll u cs).length, t, cs) with k | k | k
    · exact absurd k k2
    · simp only [Prod.mk.injEq] at k
      obtain ⟨_, rfl, rfl⟩ := k
      rfl
    · exact absurd k k1
theorem soonest_no (h : ∀ t cs, ¬ Poss g u t cs) : soonest (possible g u) = none := by
  rw [soonest_none]
  cases q : possible g u with
  | nil => rfl
  | cons y l =>
    obtain ⟨t, cs, nd⟩ := y
    have : (t, (cs, nd)) ∈ possible g u := by rw [q]; simp
    exact absurd (possible_iff.mp this).1 (h t cs)
end Nu
end
/-! # NuGrow -/
section
set_option linter.all false
namespace Nu
open Sq63
variable {g : Net} {m0 : Places} {u v : Unfolding} {t : Nat} {cs : List Nat} {tr : Transition} {off : Bool}

structure Grow (u v : Unfolding) (t : Nat) (cs : List Nat) (tr : Transition) (off : Bool) : Prop where
  conds : v.conds = u.conds ++ tr.puts.map fun p => ⟨p, some u.events.length⟩
  events : v.events = u.events ++ [⟨t, cs, Sq63.insert u.events.length (needAll u cs), off⟩]

namespace Grow
theorem clen (G : Grow u v t cs tr off) : v.conds.length = u.conds.length + tr.puts.length := by rw [G.conds]; simp
theorem elen (G : Grow u v t cs tr off) : v.events.length = u.events.length + 1 := by rw [G.events]; simp
theorem cond_old (G : Grow u v t cs tr off) {c : Nat} (h : c < u.conds.length) : v.conds[c]? = u.conds[c]? := by
  rw [G.conds, List.getElem?_append_left h]
theorem cond_new (G : Grow u v t cs tr off) {j : Nat} : v.conds[u.conds.length + j]? = (tr.puts[j]?).map fun p => ⟨p, some u.events.length⟩ := by
  rw [G.conds, List.getElem?_append_right (by omega), List.getElem?_map]
  simp
theorem ev_old (G : Grow u v t cs tr off) {e : Nat} (h : e < u.events.length) : v.events[e]? = u.events[e]? := by
  rw [G.events, List.getElem?_append_left h]
theorem ev_new (G : Grow u v t cs tr off) : v.events[u.events.length]? = some ⟨t, cs, Sq63.insert u.events.length (needAll u cs), off⟩ := by
  rw [G.events, List.getElem?_append_right (by omega)]
  simp
theorem maker_old (G : Grow u v t cs tr off) {c : Nat} (h : c < u.conds.length) : makerOf v c = makerOf u c := by unfold makerOf; rw [G.cond_old h]
theorem place_old (G : Grow u v t cs tr off) {c : Nat} (h : c < u.conds.length) : placeOf v c = placeOf u c := by unfold placeOf; rw [G.cond_old h]
theorem maker_new (G : Grow u v t cs tr off) {c : Nat} (h : u.conds.length ≤ c) (h2 : c < v.conds.length) : makerOf v c = some u.events.length := by
  obtain ⟨j, rfl⟩ : ∃ j, c = u.conds.length + j := ⟨c - u.conds.length, by omega⟩
  rw [G.clen] at h2
  unfold makerOf
  rw [G.cond_new, List.getElem?_eq_getElem (by omega)]
  rfl
theorem place_new (G : Grow u v t cs tr off) {j : Nat} (h : j < tr.puts.length) : placeOf v (u.conds.length + j) = tr.puts[j] := by
  unfold placeOf
  rw [G.cond_new, List.getElem?_eq_getElem h]
  rfl
theorem maker_out {c : Nat} (h : u.conds.length ≤ c) : makerOf u c = none := by
  unfold makerOf
  rw [List.getElem?_eq_none h]
  rfl
theorem used_old (G : Grow u v t cs tr off) {e : Nat} (h : e < u.events.length) : usedOf v e = usedOf u e := by unfold usedOf; rw [G.ev_old h]
theorem needsE_old (G : Grow u v t cs tr off) {e : Nat} (h : e < u.events.length) : needsE v e = needsE u e := by unfold needsE; rw [G.ev_old h]
theorem used_new (G : Grow u v t cs tr off) : usedOf v u.events.length = cs := usedOf_some G.ev_new
theorem needsE_new (G : Grow u v t cs tr off) : needsE v u.events.length = Sq63.insert u.events.length (needAll u cs) := needsE_some G.ev_new
theorem needsOf_old (G : Grow u v t cs tr off) (A : Good g m0 u) {c : Nat} (h : c < u.conds.length) : needsOf v c = needsOf u c := by
  rw [needsOf_eq, needsOf_eq, G.maker_old h]
  cases q : makerOf u c with
  | none => rfl
  | some e => exact G.needsE_old (A.mkr c e q)
theorem needsOf_new (G : Grow u v t cs tr off) {c : Nat} (h : u.conds.length ≤ c) (h2 : c < v.conds.length) : needsOf v c = Sq63.insert u.events.length (needAll u cs) := by
  rw [needsOf_some (G.maker_new h h2), G.needsE_new]
theorem needAll_old (G : Grow u v t cs tr off) (A : Good g m0 u) {ds : List Nat} (h : ∀ c, c ∈ ds → c < u.conds.length) : needAll v ds = needAll u ds := by
  refine rise_ext (needAll_rise _ _) (needAll_rise _ _) fun x => ?_
  rw [mem_needAll, mem_needAll]
  constructor
  · rintro ⟨c, hc, hx⟩
    exact ⟨c, hc, by rw [← G.needsOf_old A (h c hc)]; exact hx⟩
  · rintro ⟨c, hc, hx⟩
    exact ⟨c, hc, by rw [G.needsOf_old A (h c hc)]; exact hx⟩
theorem clash_old (G : Grow u v t cs tr off) {a b : List Nat} (ha : ∀ e, e ∈ a → e < u.events.length) (hb : ∀ e, e ∈ b → e < u.events.length) : Clash v a b ↔ Clash u a b := by
  unfold Clash
  constructor
  · rintro ⟨e, he, f, hf, hn, c, h1, h2⟩
    rw [G.used_old (ha e he)] at h1
    rw [G.used_old (hb f hf)] at h2
    exact ⟨e, he, f, hf, hn, c, h1, h2⟩
  · rintro ⟨e, he, f, hf, hn, c, h1, h2⟩
    rw [← G.used_old (ha e he)] at h1
    rw [← G.used_old (hb f hf)] at h2
    exact ⟨e, he, f, hf, hn, c, h1, h2⟩
theorem co_old (G : Grow u v t cs tr off) (A : Good g m0 u) {c d : Nat} (hc : c < u.conds.length) (hd : d < u.conds.length) : Co v c d ↔ Co u c d := by
  unfold Co
  rw [G.needsOf_old A hc, G.needsOf_old A hd, G.clash_old (fun e he => A.needsOf_lt he) (fun e he => A.needsOf_lt he)]
  have k1 : (∀ x, x ∈ needsOf u d → c ∉ usedOf v x) ↔ (∀ x, x ∈ needsOf u d → c ∉ usedOf u x) :=
    ⟨fun h x hx => by rw [← G.used_old (A.needsOf_lt hx)]; exact h x hx, fun h x hx => by rw [G.used_old (A.needsOf_lt hx)]; exact h x hx⟩
  have k2 : (∀ x, x ∈ needsOf u c → d ∉ usedOf v x) ↔ (∀ x, x ∈ needsOf u c → d ∉ usedOf u x) :=
    ⟨fun h x hx => by rw [← G.used_old (A.needsOf_lt hx)]; exact h x hx, fun h x hx => by rw [G.used_old (A.needsOf_lt hx)]; exact h x hx⟩
  rw [k1, k2]
theorem together_old (G : Grow u v t cs tr off) (A : Good g m0 u) {ds : List Nat} (h : ∀ c, c ∈ ds → c < u.conds.length) : together v ds = together u ds := by
  rw [Bool.eq_iff_iff, together_co, together_co]
  exact ⟨fun k c hc d hd => (G.co_old A (h c hc) (h d hd)).mp (k c hc d hd), fun k c hc d hd => (G.co_old A (h c hc) (h d hd)).mpr (k c hc d hd)⟩
/-- what the new event needs clashes with nothing that it needs -/
theorem cf_new (G : Grow u v t cs tr off) (A : Good g m0 u) (P : Poss g u t cs) : ¬ Clash v (Sq63.insert u.events.length (needAll u cs)) (Sq63.insert u.events.length (needAll u cs)) := by
  have T := together_iff.mp P.tog
  have lt : ∀ f, f ∈ needAll u cs → f < u.events.length := fun f hf => by
    obtain ⟨c, hc, hf⟩ := mem_needAll.mp hf
    exact A.needsOf_lt hf
  rintro ⟨e, he, f, hf, hn, c, h1, h2⟩
  rcases mem_insert.mp he with rfl | he <;> rcases mem_insert.mp hf with rfl | hf
  · exact hn rfl
  · rw [G.used_new] at h1
    rw [G.used_old (lt f hf)] at h2
    exact T.2 c h1 f hf h2
  · rw [G.used_new] at h2
    rw [G.used_old (lt e he)] at h1
    exact T.2 c h2 e he h1
  · rw [G.used_old (lt e he)] at h1
    rw [G.used_old (lt f hf)] at h2
    exact T.1 ⟨e, he, f, hf, hn, c, h1, h2⟩
/-- a new condition beside an old one -/
theorem co_new (G : Grow u v t cs tr off) (A : Good g m0 u) (P : Poss g u t cs) {x d : Nat} (hx : u.conds.length ≤ x) (hx2 : x < v.conds.length) (hd : d < u.conds.length) :
    Co v x d ↔ ∀ c, c ∈ cs → c ≠ d ∧ Co u c d := by
  obtain ⟨_, hfit, F⟩ := P.fit
  have lt : ∀ f, f ∈ needAll u cs → f < u.events.length := fun f hf => by
    obtain ⟨c, hc, hf⟩ := mem_needAll.mp hf
    exact A.needsOf_lt hf
  unfold Co
  rw [G.needsOf_new hx hx2, G.needsOf_old A hd]
  constructor
  · rintro ⟨h1, h2, h3⟩ c hc
    refine ⟨?_, ?_, ?_, ?_⟩
    · rintro rfl
      have := h3 u.events.length (mem_insert.mpr (Or.inl rfl))
      rw [G.used_new] at this
      exact this hc
    · rintro ⟨e, he, f, hf, hn, k, k1, k2⟩
      refine h1 ⟨e, mem_insert.mpr (Or.inr (mem_needAll.mpr ⟨c, hc, he⟩)), f, hf, hn, k, ?_, ?_⟩
      · rw [G.used_old (A.needsOf_lt he)]; exact k1
      · rw [G.used_old (A.needsOf_lt hf)]; exact k2
    · intro f hf hq
      refine h1 ⟨u.events.length, mem_insert.mpr (Or.inl rfl), f, hf, ?_, c, ?_, ?_⟩
      · have := A.needsOf_lt hf; omega
      · rw [G.used_new]; exact hc
      · rw [G.used_old (A.needsOf_lt hf)]; exact hq
    · intro f hf hq
      refine h3 f (mem_insert.mpr (Or.inr (mem_needAll.mpr ⟨c, hc, hf⟩))) ?_
      rw [G.used_old (A.needsOf_lt hf)]
      exact hq
  · intro h
    refine ⟨?_, ?_, ?_⟩
    · rintro ⟨e, he, f, hf, hn, k, k1, k2⟩
      have lf := A.needsOf_lt hf
      rw [G.used_old lf] at k2
      rcases mem_insert.mp he with rfl | he
      · rw [G.used_new] at k1
        exact (h k k1).2.2.1 f hf k2
      · obtain ⟨c, hc, he⟩ := mem_needAll.mp he
        rw [G.used_old (A.needsOf_lt he)] at k1
        exact (h c hc).2.1 ⟨e, he, f, hf, hn, k, k1, k2⟩
    · intro f hf hq
      rw [G.used_old (A.needsOf_lt hf)] at hq
      have := A.used_lt hq
      omega
    · intro e he hq
      rcases mem_insert.mp he with rfl | he
      · rw [G.used_new] at hq
        exact (h d hq).1 rfl
      · obtain ⟨c, hc, he⟩ := mem_needAll.mp he
        rw [G.used_old (A.needsOf_lt he)] at hq
        exact (h c hc).2.2.2 e he hq
/-- two new ones -/
theorem co_nn (G : Grow u v t cs tr off) (A : Good g m0 u) (P : Poss g u t cs) {x y : Nat} (hx : u.conds.length ≤ x) (hx2 : x < v.conds.length) (hy : u.conds.length ≤ y) (hy2 : y < v.conds.length) : Co v x y := by
  obtain ⟨_, hfit, F⟩ := P.fit
  have k : ∀ z, u.conds.length ≤ z → ∀ e, e ∈ Sq63.insert u.events.length (needAll u cs) → z ∉ usedOf v e := by
    intro z hz e he hq
    rcases mem_insert.mp he with rfl | he
    · rw [G.used_new] at hq
      have := F.lt z hq
      omega
    · obtain ⟨c, hc, he⟩ := mem_needAll.mp he
      rw [G.used_old (A.needsOf_lt he)] at hq
      have := A.used_lt hq
      omega
  unfold Co
  rw [G.needsOf_new hx hx2, G.needsOf_new hy hy2]
  exact ⟨G.cf_new A P, k x hx, k y hy⟩
theorem open_eq (u : Unfolding) (c : Nat) (h : c < u.conds.length) : u.open_ c = match makerOf u c with
    | some e => !(((u.events[e]?).map fun y => y.cut).getD true)
    | none => true := by
  unfold Unfolding.open_ makerOf
  rw [List.getElem?_eq_getElem h]
  rfl
theorem open_old (G : Grow u v t cs tr off) (A : Good g m0 u) {c : Nat} (h : c < u.conds.length) : v.open_ c = u.open_ c := by
  rw [open_eq v c (by rw [G.clen]; omega), open_eq u c h, G.maker_old h]
  cases q : makerOf u c with
  | none => rfl
  | some e => simp only []; rw [G.ev_old (A.mkr c e q)]
theorem open_new (G : Grow u v t cs tr off) {c : Nat} (h : u.conds.length ≤ c) (h2 : c < v.conds.length) : v.open_ c = !off := by
  rw [open_eq v c h2, G.maker_new h h2]
  simp only []
  rw [G.ev_new]
  rfl
theorem range_split (n m : Nat) : List.range (n + m) = List.range n ++ List.range' n m := by
  rw [List.range_eq_range', List.range_eq_range', ← List.range'_append_1, Nat.zero_add]
theorem made_old (G : Grow u v t cs tr off) (A : Good g m0 u) {e : Nat} (h : e < u.events.length) : madeOf v e = madeOf u e := by
  unfold madeOf
  rw [G.clen, range_split, List.filter_append]
  have h1 : (List.range u.conds.length).filter (fun c => makerOf v c == some e) = (List.range u.conds.length).filter (fun c => makerOf u c == some e) :=
    List.filter_congr fun c hc => by rw [G.maker_old (List.mem_range.mp hc)]
  have h2 : (List.range' u.conds.length tr.puts.length).filter (fun c => makerOf v c == some e) = [] := by
    rw [List.filter_eq_nil_iff]
    intro c hc
    have := List.mem_range'_1.mp hc
    rw [G.maker_new this.1 (by rw [G.clen]; exact this.2)]
    simp
    omega
  rw [h1, h2, List.append_nil]
theorem made_new (G : Grow u v t cs tr off) (A : Good g m0 u) : madeOf v u.events.length = List.range' u.conds.length tr.puts.length := by
  unfold madeOf
  rw [G.clen, range_split, List.filter_append]
  have h1 : (List.range u.conds.length).filter (fun c => makerOf v c == some u.events.length) = [] := by
    rw [List.filter_eq_nil_iff]
    intro c hc
    rw [G.maker_old (List.mem_range.mp hc)]
    intro q
    have := A.mkr c _ (by simpa using q)
    omega
  have h2 : (List.range' u.conds.length tr.puts.length).filter (fun c => makerOf v c == some u.events.length) = List.range' u.conds.length tr.puts.length := by
    rw [List.filter_eq_self]
    intro c hc
    have := List.mem_range'_1.mp hc
    rw [G.maker_new this.1 (by rw [G.clen]; exact this.2)]
    simp
  rw [h1, h2, List.nil_append]
theorem first_old (G : Grow u v t cs tr off) : firstOf v = firstOf u := by
  unfold firstOf
  rw [G.clen, range_split, List.filter_append]
  have h1 : (List.range u.conds.length).filter (fun c => makerOf v c == none) = (List.range u.conds.length).filter (fun c => makerOf u c == none) :=
    List.filter_congr fun c hc => by rw [G.maker_old (List.mem_range.mp hc)]
  have h2 : (List.range' u.conds.length tr.puts.length).filter (fun c => makerOf v c == none) = [] := by
    rw [List.filter_eq_nil_iff]
    intro c hc
    have := List.mem_range'_1.mp hc
    rw [G.maker_new this.1 (by rw [G.clen]; exact this.2)]
    simp
  rw [h1, h2, List.append_nil]
theorem places_new (G : Grow u v t cs tr off) : (List.range' u.conds.length tr.puts.length).map (placeOf v) = tr.puts := by
  refine List.ext_getElem (by simp) fun j h1 h2 => ?_
  rw [List.getElem_map, List.getElem_range']
  rw [Nat.one_mul, G.place_new h2]
theorem map_place_old (G : Grow u v t cs tr off) {ds : List Nat} (h : ∀ c, c ∈ ds → c < u.conds.length) : ds.map (placeOf v) = ds.map (placeOf u) :=
  List.map_congr_left fun c hc => G.place_old (h c hc)
theorem made_lt {e c : Nat} (h : c ∈ madeOf u e) : c < u.conds.length := by
  unfold madeOf at h
  exact List.mem_range.mp (List.mem_filter.mp h).1
theorem first_lt {c : Nat} (h : c ∈ firstOf u) : c < u.conds.length := by
  unfold firstOf at h
  exact List.mem_range.mp (List.mem_filter.mp h).1
theorem needAll_lt (A : Good g m0 u) {f : Nat} {cs : List Nat} (hf : f ∈ needAll u cs) : f < u.events.length := by
  obtain ⟨c, hc, hf⟩ := mem_needAll.mp hf
  exact A.needsOf_lt hf
theorem good (G : Grow u v t cs tr off) (A : Good g m0 u) (P : Poss g u t cs) (ht : g.ts[t]? = some tr) : Good g m0 v := by
  obtain ⟨tr', ht', F⟩ := P.fit
  rw [ht] at ht'
  cases ht'
  refine ⟨?_, ?_, ?_, ?_⟩
  · intro c e h
    rw [G.elen]
    by_cases hc : c < u.conds.length
    · rw [G.maker_old hc] at h
      have := A.mkr c e h
      omega
    · by_cases hc2 : c < v.conds.length
      · rw [G.maker_new (by omega) hc2] at h
        cases h
        omega
      · rw [maker_out (by omega)] at h
        cases h
  · intro e x h
    by_cases he : e < u.events.length
    · rw [G.ev_old he] at h
      have E := A.ev e x h
      obtain ⟨tr', h1, h2⟩ := E.tr
      have lt : ∀ f, f ∈ x.needs → f < u.events.length := fun f hf => by have := E.nle f hf; omega
      refine ⟨⟨tr', h1, by rw [G.map_place_old E.lt]; exact h2⟩, fun c hc => by have := E.lt c hc; rw [G.clen]; omega, fun c hc f hf => ?_, fun c hc => by rw [G.open_old A (E.lt c hc)]; exact E.op c hc, ?_, E.nle, fun f hf k hk => ?_, ?_, ?_, ?_⟩
      · rw [G.maker_old (E.lt c hc)] at hf
        exact E.old c hc f hf
      · rw [G.needAll_old A E.lt]
        exact E.needs
      · rw [G.needsE_old (lt f hf)] at hk
        exact E.dc f hf k hk
      · rw [G.together_old A E.lt]
        exact E.tog
      · rw [G.clash_old lt lt]
        exact E.cf
      · intro f y hy h3 h4
        by_cases hf : f < u.events.length
        · rw [G.ev_old hf] at hy
          exact E.uniq f y hy h3 h4
        · have := (List.getElem?_eq_some_iff.mp hy).1
          rw [G.elen] at this
          have hf : f = u.events.length := by omega
          subst hf
          rw [G.ev_new] at hy
          cases hy
          exact absurd h4.symm (P.new e x h h3.symm)
    · have := (List.getElem?_eq_some_iff.mp h).1
      rw [G.elen] at this
      have he : e = u.events.length := by omega
      subst he
      rw [G.ev_new] at h
      cases h
      refine ⟨⟨tr, ht, by rw [G.map_place_old F.lt]; exact F.pl⟩, fun c hc => by have := F.lt c hc; rw [G.clen]; omega, fun c hc f hf => ?_, fun c hc => by rw [G.open_old A (F.lt c hc)]; exact F.op c hc, ?_, fun f hf => ?_, fun f hf k hk => ?_, ?_, ?_, ?_⟩
      · rw [G.maker_old (F.lt c hc)] at hf
        exact A.mkr c f hf
      · rw [G.needAll_old A F.lt]
      · rcases mem_insert.mp hf with rfl | hf
        · omega
        · have := needAll_lt A hf; omega
      · show k ∈ Sq63.insert u.events.length (needAll u cs)
        rcases mem_insert.mp hf with rfl | hf
        · rw [G.needsE_new] at hk
          exact hk
        · rw [G.needsE_old (needAll_lt A hf)] at hk
          obtain ⟨c, hc, hf⟩ := mem_needAll.mp hf
          obtain ⟨e, he, hf⟩ := needsOf_mem hf
          obtain ⟨y, hy, hf⟩ := needs_ev hf
          have := (A.ev e y hy).dc f hf k hk
          refine mem_insert.mpr (Or.inr (mem_needAll.mpr ⟨c, hc, ?_⟩))
          rw [needsOf_some he, needsE_some hy]
          exact this
      · show together v cs = true
        rw [G.together_old A F.lt]
        exact P.tog
      · exact G.cf_new A P
      · intro f y hy h3 h4
        by_cases hf : f < u.events.length
        · rw [G.ev_old hf] at hy
          exact absurd h4 (P.new f y hy h3)
        · have := (List.getElem?_eq_some_iff.mp hy).1
          rw [G.elen] at this
          omega
  · intro e x t' h h1
    by_cases he : e < u.events.length
    · rw [G.ev_old he] at h
      rw [G.made_old A he, G.map_place_old fun c hc => made_lt hc]
      exact A.made e x t' h h1
    · have := (List.getElem?_eq_some_iff.mp h).1
      rw [G.elen] at this
      have he : e = u.events.length := by omega
      subst he
      rw [G.ev_new] at h
      cases h
      rw [ht] at h1
      cases h1
      rw [G.made_new A, G.places_new]
  · rw [G.first_old, G.map_place_old fun c hc => first_lt hc]
    exact A.first
end Grow
/-- whether the event that is added is cut off -/
def offOf (g : Net) (m0 : Places) (u : Unfolding) (t : Nat) (cs : List Nat) : Bool :=
  let v := add g m0 u (t, (cs, needAll u cs))
  markingOf v (Sq63.insert u.events.length (needAll u cs)) == m0 || u.events.any fun e => decide (e.needs.length < (Sq63.insert u.events.length (needAll u cs)).length) && markingOf v e.needs == markingOf v (Sq63.insert u.events.length (needAll u cs))
theorem marking_same {v w : Unfolding} (hc : v.conds = w.conds) (he : ∀ e, usedOf v e = usedOf w e) (es : List Nat) : markingOf v es = markingOf w es := by
  have k : cut v es = cut w es := by
    show ((List.range v.conds.length).filter fun c => (match v.conds[c]? with
      | some x => match x.by_ with
        | some e => es.contains e
        | none => true
      | none => false) && es.all fun e => !(usedOf v e).contains c) = ((List.range w.conds.length).filter fun c => (match w.conds[c]? with
      | some x => match x.by_ with
        | some e => es.contains e
        | none => true
      | none => false) && es.all fun e => !(usedOf w e).contains c)
    rw [hc]
    simp only [he]
  unfold markingOf
  rw [k, hc]
theorem add_grow {g : Net} {m0 : Places} {u : Unfolding} {t : Nat} {cs : List Nat} {tr : Transition} (ht : g.ts[t]? = some tr) : Grow u (add g m0 u (t, (cs, needAll u cs))) t cs tr (offOf g m0 u t cs) := by
  have e0 : (g.ts[t]?).getD ⟨[], []⟩ = tr := by rw [ht]; rfl
  constructor
  · show u.conds ++ ((g.ts[t]?).getD ⟨[], []⟩).puts.map _ = _
    rw [e0]
  · show u.events ++ [_] = _
    refine congrArg (fun b => u.events ++ [(⟨t, cs, Sq63.insert u.events.length (needAll u cs), b⟩ : Event)]) ?_
    unfold offOf
    have k : ∀ es, markingOf (⟨u.conds ++ ((g.ts[t]?).getD ⟨[], []⟩).puts.map fun p => ⟨p, some u.events.length⟩, u.events ++ [⟨t, cs, Sq63.insert u.events.length (needAll u cs), false⟩]⟩ : Unfolding) es = markingOf (add g m0 u (t, (cs, needAll u cs))) es := by
      refine marking_same rfl fun e => ?_
      unfold usedOf
      show ((u.events ++ [_])[e]?.map _).getD _ = ((u.events ++ [_])[e]?.map _).getD _
      by_cases h : e < u.events.length
      · rw [List.getElem?_append_left h, List.getElem?_append_left h]
      · rw [List.getElem?_append_right (by omega), List.getElem?_append_right (by omega)]
        cases e - u.events.length <;> simp
    simp only [← k]
theorem good_start {g : Net} {m0 : Places} : Good g m0 ⟨m0.map fun p => ⟨p, none⟩, []⟩ := by
  have k : ∀ c, makerOf ⟨m0.map fun p => (⟨p, none⟩ : Cond), []⟩ c = none := by
    intro c
    unfold makerOf
    show ((m0.map fun p => (⟨p, none⟩ : Cond))[c]?).bind _ = none
    rw [List.getElem?_map]
    cases m0[c]? <;> rfl
  refine ⟨fun c e h => ?_, fun e x h => ?_, fun e x t h => ?_, ?_⟩
  · rw [k c] at h; cases h
  · simp at h
  · simp at h
  · unfold firstOf
    rw [List.filter_eq_self.mpr (fun c hc => by rw [k c]; rfl)]
    refine List.ext_getElem (by simp) fun j h1 h2 => ?_
    rw [List.getElem_map, List.getElem_range]
    unfold placeOf
    simp [h2]
end Nu
end
/-! # NuCfg -/
section
set_option linter.all false
namespace Nu
open Sq63
variable {g : Net} {m0 : Places} {u : Unfolding}

structure Cfg (u : Unfolding) (C : List Nat) : Prop where
  rise : C.Pairwise (· < ·)
  lt : ∀ e, e ∈ C → e < u.events.length
  dc : ∀ e, e ∈ C → ∀ f, f ∈ needsE u e → f ∈ C
  cf : ¬ Clash u C C
theorem mem_cut {C : List Nat} {c : Nat} : c ∈ cut u C ↔ c < u.conds.length ∧ (∀ e, makerOf u c = some e → e ∈ C) ∧ ∀ e, e ∈ C → c ∉ usedOf u e := by
  show c ∈ ((List.range u.conds.length).filter fun c => (match u.conds[c]? with
      | some x => match x.by_ with
        | some e => C.contains e
        | none => true
      | none => false) && C.all fun e => !(usedOf u e).contains c) ↔ _
  rw [List.mem_filter, List.mem_range, Bool.and_eq_true, List.all_eq_true]
  constructor
  · rintro ⟨h1, h2, h3⟩
    refine ⟨h1, fun e he => ?_, fun e he => by simpa using h3 e he⟩
    unfold makerOf at he
    rw [List.getElem?_eq_getElem h1] at h2 he
    have he : (u.conds[c]).by_ = some e := he
    simp only [he] at h2
    simpa using h2
  · rintro ⟨h1, h2, h3⟩
    refine ⟨h1, ?_, fun e he => by simpa using h3 e he⟩
    unfold makerOf at h2
    rw [List.getElem?_eq_getElem h1] at h2 ⊢
    cases q : (u.conds[c]).by_ with
    | none => simp only [q]
    | some e => simp only [q]; simpa using h2 e q
theorem cut_nodup (C : List Nat) : (cut u C).Nodup := List.Nodup.sublist List.filter_sublist List.nodup_range
theorem mem_marking {C : List Nat} {p : Nat} : p ∈ markingOf u C ↔ ∃ c, c ∈ cut u C ∧ placeOf u c = p := by
  show p ∈ (cut u C).foldl (fun s c => Sq63.insert (placeOf u c) s) [] ↔ _
  rw [mem_ins_fold]
  simp
theorem marking_rise (C : List Nat) : (markingOf u C).Pairwise (· < ·) := ins_fold_rise (f := placeOf u) List.Pairwise.nil
structure NetOk (g : Net) (m0 : Places) : Prop where
  m0 : m0.Pairwise (· < ·)
  takes : ∀ t, t ∈ g.ts → t.takes.Pairwise (· < ·)
  puts : ∀ t, t ∈ g.ts → t.puts.Pairwise (· < ·)
  some_ : ∀ t, t ∈ g.ts → t.takes ≠ []
theorem mem_made {e c : Nat} : c ∈ madeOf u e ↔ c < u.conds.length ∧ makerOf u c = some e := by
  unfold madeOf
  rw [List.mem_filter, List.mem_range]
  simp
theorem mem_first {c : Nat} : c ∈ firstOf u ↔ c < u.conds.length ∧ makerOf u c = none := by
  unfold firstOf
  rw [List.mem_filter, List.mem_range]
  simp
theorem inj_of_nodup {f : Nat → Nat} : ∀ {l : List Nat}, (l.map f).Nodup → ∀ a, a ∈ l → ∀ b, b ∈ l → f a = f b → a = b
  | [], _, _, ha, _, _, _ => by simp at ha
  | x :: l, h, a, ha, b, hb, e => by
    rw [List.map_cons, List.nodup_cons] at h
    rcases List.mem_cons.mp ha with h1 | h1 <;> rcases List.mem_cons.mp hb with h2 | h2
    · rw [h1, h2]
    · rw [h1] at e; exact absurd (List.mem_map.mpr ⟨b, h2, e.symm⟩) h.1
    · rw [h2] at e; exact absurd (List.mem_map.mpr ⟨a, h1, e⟩) h.1
    · exact inj_of_nodup h.2 a h1 b h2 e
def Inj (u : Unfolding) (C : List Nat) : Prop := ∀ c, c ∈ cut u C → ∀ d, d ∈ cut u C → placeOf u c = placeOf u d → c = d
/-- a row of events, and one more, the greatest -/
structure Last (u : Unfolding) (C : List Nat) (e : Nat) : Prop where
  cfg : Cfg u C
  cfg1 : Cfg u (C ++ [e])
  gt : ∀ f, f ∈ C → f < e
theorem Cfg.last (A : Good g m0 u) {C : List Nat} {e : Nat} (h : Cfg u (C ++ [e])) : Last u C e := by
  have hr := List.pairwise_append.mp h.rise
  have gt : ∀ f, f ∈ C → f < e := fun f hf => hr.2.2 f hf e (by simp)
  refine ⟨⟨hr.1, fun f hf => h.lt f (by simp [hf]), fun f hf k hk => ?_, fun q => h.cf (q.mono (by simp; intros; left; assumption) (by simp; intros; left; assumption))⟩, h, gt⟩
  have h1 := h.dc f (by simp [hf]) k hk
  rcases List.mem_append.mp h1 with h1 | h1
  · exact h1
  · rw [List.mem_singleton] at h1
    have := (A.needsE_le hk).1
    have := gt f hf
    omega
theorem Last.used (A : Good g m0 u) {C : List Nat} {e c : Nat} (L : Last u C e) (hc : c ∈ usedOf u e) : c ∈ cut u C := by
  rw [mem_cut]
  obtain ⟨x, hx, hx2⟩ := used_ev hc
  have E := A.ev e x hx
  refine ⟨E.lt c hx2, fun f hf => ?_, fun f hf hq => ?_⟩
  · have hlt := E.old c hx2 f hf
    have h1 : f ∈ needsE u e := by
      rw [needsE_some hx, E.needs]
      refine mem_insert.mpr (Or.inr (mem_needAll.mpr ⟨c, hx2, ?_⟩))
      rw [needsOf_some hf]
      exact A.needsE_self (A.mkr c f hf)
    have := L.cfg1.dc e (by simp) f h1
    rcases List.mem_append.mp this with h2 | h2
    · exact h2
    · rw [List.mem_singleton] at h2; omega
  · refine L.cfg1.cf ⟨e, by simp, f, by simp [hf], ?_, c, hc, hq⟩
    have := L.gt f hf
    omega
theorem Last.cut_iff (A : Good g m0 u) {C : List Nat} {e c : Nat} (L : Last u C e) : c ∈ cut u (C ++ [e]) ↔ (c ∈ cut u C ∧ c ∉ usedOf u e) ∨ c ∈ madeOf u e := by
  rw [mem_cut, mem_cut, mem_made]
  constructor
  · rintro ⟨h1, h2, h3⟩
    by_cases q : makerOf u c = some e
    · exact Or.inr ⟨h1, q⟩
    · refine Or.inl ⟨⟨h1, fun f hf => ?_, fun f hf => h3 f (by simp [hf])⟩, h3 e (by simp)⟩
      rcases List.mem_append.mp (h2 f hf) with h | h
      · exact h
      · rw [List.mem_singleton] at h
        subst h
        exact absurd hf q
  · rintro (⟨⟨h1, h2, h3⟩, h4⟩ | ⟨h1, h2⟩)
    · refine ⟨h1, fun f hf => List.mem_append_left _ (h2 f hf), fun f hf => ?_⟩
      rcases List.mem_append.mp hf with h | h
      · exact h3 f h
      · rw [List.mem_singleton] at h
        subst h
        exact h4
    · refine ⟨h1, fun f hf => ?_, fun f hf hq => ?_⟩
      · rw [h2] at hf
        cases hf
        simp
      · obtain ⟨x, hx, hx2⟩ := used_ev hq
        have := (A.ev f x hx).old c hx2 e h2
        rcases List.mem_append.mp hf with h | h
        · have := L.gt f h; omega
        · rw [List.mem_singleton] at h; omega
/-- one step: what's there behind one event more -/
theorem Last.fire (A : Good g m0 u) (N : NetOk g m0) (S : Safe g m0) {C : List Nat} {e : Nat} (L : Last u C e) (hi : Inj u C) (hr : Reach g m0 (markingOf u C)) :
    Inj u (C ++ [e]) ∧ ∃ x t, u.events[e]? = some x ∧ g.ts[x.t]? = some t ∧ may t (markingOf u C) = true ∧ markingOf u (C ++ [e]) = fired t (markingOf u C) := by
  have he := L.cfg1.lt e (by simp)
  have hx := List.getElem?_eq_getElem he
  have E := A.ev e _ hx
  obtain ⟨t, ht, hp⟩ := E.tr
  have hu : usedOf u e = (u.events[e]).used := usedOf_some hx
  have htm := List.mem_of_getElem? ht
  have hmay : may t (markingOf u C) = true := by
    unfold may
    rw [within_iff, ← hp]
    intro p hp
    obtain ⟨c, hc, rfl⟩ := List.mem_map.mp hp
    exact mem_marking.mpr ⟨c, L.used A (by rw [hu]; exact hc), rfl⟩
  have hsafe := S _ t hr htm hmay
  have hmade := A.made e _ t hx ht
  have stay : ∀ c, c ∈ cut u C → c ∉ usedOf u e → placeOf u c ∉ t.takes := by
    intro c hc hn hq
    rw [← hp] at hq
    obtain ⟨d, hd, hde⟩ := List.mem_map.mp hq
    have := hi d (L.used A (by rw [hu]; exact hd)) c hc hde
    subst this
    exact hn (by rw [hu]; exact hd)
  have putM : ∀ c, c ∈ madeOf u e → placeOf u c ∈ t.puts := fun c hc => by rw [← hmade]; exact List.mem_map.mpr ⟨c, hc, rfl⟩
  have clear : ∀ c d, c ∈ cut u C → c ∉ usedOf u e → d ∈ madeOf u e → placeOf u c ≠ placeOf u d := by
    intro c d hc hn hd hq
    unfold safe at hsafe
    rw [Bool.not_eq_true'] at hsafe
    have : meets t.puts ((markingOf u C).filter fun p => !t.takes.contains p) = true := by
      rw [meets_iff]
      refine ⟨placeOf u d, putM d hd, ?_⟩
      rw [List.mem_filter, ← hq]
      exact ⟨mem_marking.mpr ⟨c, hc, rfl⟩, by simpa using stay c hc hn⟩
    rw [this] at hsafe
    cases hsafe
  constructor
  · intro c hc d hd hq
    rcases (L.cut_iff A).mp hc with ⟨h1, h2⟩ | h1 <;> rcases (L.cut_iff A).mp hd with ⟨h3, h4⟩ | h3
    · exact hi c h1 d h3 hq
    · exact absurd hq (clear c d h1 h2 h3)
    · exact absurd hq.symm (clear d c h3 h4 h1)
    · refine inj_of_nodup (l := madeOf u e) ?_ c h1 d h3 hq
      rw [hmade]
      exact rise_nodup (N.puts t htm)
  · refine ⟨_, t, hx, ht, hmay, ?_⟩
    refine rise_ext (marking_rise _) (union_rise ((marking_rise _).filter _)) fun p => ?_
    show p ∈ markingOf u (C ++ [e]) ↔ p ∈ Sq63.union t.puts ((markingOf u C).filter fun p => !t.takes.contains p)
    rw [mem_union, mem_marking, List.mem_filter]
    constructor
    · rintro ⟨c, hc, rfl⟩
      rcases (L.cut_iff A).mp hc with ⟨h1, h2⟩ | h1
      · exact Or.inr ⟨mem_marking.mpr ⟨c, h1, rfl⟩, by simpa using stay c h1 h2⟩
      · exact Or.inl (putM c h1)
    · rintro (h | ⟨h1, h2⟩)
      · rw [← hmade] at h
        obtain ⟨c, hc, rfl⟩ := List.mem_map.mp h
        exact ⟨c, (L.cut_iff A).mpr (Or.inr hc), rfl⟩
      · obtain ⟨c, hc, rfl⟩ := mem_marking.mp h1
        refine ⟨c, (L.cut_iff A).mpr (Or.inl ⟨hc, fun hq => ?_⟩), rfl⟩
        have : placeOf u c ∈ t.takes := by rw [← hp]; exact List.mem_map.mpr ⟨c, by rw [← hu]; exact hq, rfl⟩
        simp [this] at h2
theorem cut_nil : cut u [] = firstOf u := by
  have h1 : ∀ c, c ∈ cut u [] ↔ c ∈ firstOf u := by
    intro c
    rw [mem_cut, mem_first]
    constructor
    · rintro ⟨h1, h2, _⟩
      refine ⟨h1, ?_⟩
      cases q : makerOf u c with
      | none => rfl
      | some e => have := h2 e q; simp at this
    · rintro ⟨h1, h2⟩
      exact ⟨h1, fun e he => (by rw [h2] at he; cases he), by simp⟩
  exact rise_ext (List.Pairwise.filter _ List.pairwise_lt_range) (List.Pairwise.filter _ List.pairwise_lt_range) h1
theorem marking_nil (A : Good g m0 u) (N : NetOk g m0) : markingOf u [] = m0 := by
  refine rise_ext (marking_rise _) N.m0 fun p => ?_
  rw [mem_marking, cut_nil, ← A.first, List.mem_map]
theorem snoc_cases {α : Type} : ∀ (l : List α), l = [] ∨ ∃ L b, l = L ++ [b]
  | [] => Or.inl rfl
  | x :: l => by
    rcases snoc_cases l with rfl | ⟨L, b, rfl⟩
    · exact Or.inr ⟨[], x, rfl⟩
    · exact Or.inr ⟨x :: L, b, rfl⟩
theorem cfg_all (A : Good g m0 u) (N : NetOk g m0) (S : Safe g m0) : ∀ (n : Nat) (C : List Nat), C.length = n → Cfg u C → Inj u C ∧ Reach g m0 (markingOf u C)
  | 0, C, hn, h => by
    have : C = [] := List.eq_nil_of_length_eq_zero hn
    subst this
    refine ⟨fun c hc d hd hq => ?_, by rw [marking_nil A N]; exact .base⟩
    rw [cut_nil] at hc hd
    refine inj_of_nodup (l := firstOf u) ?_ c hc d hd hq
    rw [A.first]
    exact rise_nodup N.m0
  | n + 1, C, hn, h => by
    rcases snoc_cases C with rfl | ⟨D, e, rfl⟩
    · simp at hn
    · have L := h.last A
      obtain ⟨i, r⟩ := cfg_all A N S n D (by simpa using hn) L.cfg
      obtain ⟨i2, x, t, hx, ht, hm, he⟩ := L.fire A N S i r
      refine ⟨i2, ?_⟩
      rw [he]
      exact .step r (List.mem_of_getElem? ht) hm
theorem local_cfg (A : Good g m0 u) {e : Nat} (h : e < u.events.length) : Cfg u (needsE u e) := by
  have hx := List.getElem?_eq_getElem h
  have E := A.ev e _ hx
  rw [needsE_some hx]
  exact ⟨E.rise, fun f hf => by have := E.nle f hf; omega, E.dc, E.cf⟩
/-- the places of what's there, in any order, sorted: the marking -/
theorem marking_of {C there sorted : List Nat} (hi : Inj u C) (hn : there.Nodup) (hm : ∀ c, c ∈ there ↔ c ∈ cut u C) (hp : sorted.Perm (there.map (placeOf u))) (hs : sorted.Pairwise (· ≤ ·)) : sorted = markingOf u C := by
  have hnd : sorted.Nodup := by
    rw [hp.nodup_iff]
    rw [List.Nodup, List.pairwise_map]
    refine List.Pairwise.imp_of_mem (fun {a b} ha hb hne => ?_) hn
    intro q
    exact hne (hi a ((hm a).mp ha) b ((hm b).mp hb) q)
  refine rise_ext ?_ (marking_rise _) fun p => ?_
  · refine List.Pairwise.imp₂ ?_ hs hnd
    intro a b h1 h2
    omega
  · rw [hp.mem_iff, mem_marking, List.mem_map]
    constructor
    · rintro ⟨c, h1, h2⟩; exact ⟨c, (hm c).mp h1, h2⟩
    · rintro ⟨c, h1, h2⟩; exact ⟨c, (hm c).mpr h1, h2⟩
end Nu
end
/-! # NuBits -/
section
set_option linter.all false
namespace Nu
open Sq63
variable {g : Net} {m0 : Places} {u v : Unfolding} {t : Nat} {cs : List Nat} {tr : Transition} {off : Bool}

def pows (l : List Nat) : Nat := (l.map fun c => 2 ^ c).sum
theorem pows_range (n : Nat) : ∀ k, pows (List.range' n k) = 2 ^ n * (2 ^ k - 1)
  | 0 => by simp [pows]
  | k + 1 => by
    have ih := pows_range n k
    unfold pows at ih ⊢
    rw [List.range'_concat, List.map_append, List.sum_append, ih]
    simp only [List.map_cons, List.map_nil, List.sum_cons, List.sum_nil, Nat.one_mul, Nat.add_zero]
    have h1 : 1 ≤ 2 ^ k := Nat.one_le_two_pow
    rw [Nat.pow_add, ← Nat.mul_add, Nat.pow_succ]
    congr 1
    omega
theorem bit_range {n k d : Nat} : (pows (List.range' n k)).testBit d = true ↔ n ≤ d ∧ d < n + k := by
  rw [pows_range, Nat.testBit_two_pow_mul, Nat.testBit_two_pow_sub_one]
  simp
  omega
theorem pows_but {n k c : Nat} (h1 : n ≤ c) (h2 : c < n + k) : pows (List.range' n k) - 2 ^ c = 2 ^ (c + 1) * (2 ^ (n + k - (c + 1)) - 1) + 2 ^ n * (2 ^ (c - n) - 1) := by
  obtain ⟨a, rfl⟩ : ∃ a, c = n + a := ⟨c - n, by omega⟩
  obtain ⟨b, rfl⟩ : ∃ b, k = a + 1 + b := ⟨k - (a + 1), by omega⟩
  have e1 : n + a - n = a := by omega
  have e2 : n + (a + 1 + b) - (n + a + 1) = b := by omega
  rw [pows_range, e1, e2]
  have h3 : 1 ≤ 2 ^ a := Nat.one_le_two_pow
  have h4 : 1 ≤ 2 ^ b := Nat.one_le_two_pow
  rw [Nat.pow_add 2 (a + 1) b, Nat.pow_succ, Nat.pow_succ, Nat.pow_add 2 n a, Nat.mul_assoc (2 ^ n * 2 ^ a), Nat.mul_assoc (2 ^ n), ← Nat.mul_add, ← Nat.mul_sub]
  congr 1
  generalize 2 ^ a = x at *
  generalize 2 ^ b = y at *
  obtain ⟨y', rfl⟩ : ∃ y', y = y' + 1 := ⟨y - 1, by omega⟩
  rw [Nat.add_sub_cancel, Nat.mul_add, Nat.mul_assoc]
  omega
theorem bit_but {n k c d : Nat} (h1 : n ≤ c) (h2 : c < n + k) : (pows (List.range' n k) - 2 ^ c).testBit d = true ↔ (n ≤ d ∧ d < n + k) ∧ d ≠ c := by
  rw [pows_but h1 h2, Nat.testBit_two_pow_mul_add]
  · split
    · rw [Nat.testBit_two_pow_mul, Nat.testBit_two_pow_sub_one]
      simp
      omega
    · rw [Nat.testBit_two_pow_sub_one]
      simp
      omega
  · have h3 : 1 ≤ 2 ^ (c - n) := Nat.one_le_two_pow
    have h4 : 2 ^ n * 2 ^ (c - n) = 2 ^ c := by rw [← Nat.pow_add]; congr 1; omega
    have h5 : 2 ^ n * (2 ^ (c - n) - 1) ≤ 2 ^ n * 2 ^ (c - n) := Nat.mul_le_mul_left _ (by omega)
    have h6 : 2 ^ c < 2 ^ (c + 1) := Nat.pow_lt_pow_right (by omega) (by omega)
    omega

/-- for each condition, those that it can be there with, as bits -/
structure Beside (u : Unfolding) (B : List Nat) : Prop where
  len : B.length = u.conds.length
  bit : ∀ c b, B[c]? = some b → ∀ d, b.testBit d = true ↔ d < u.conds.length ∧ c ≠ d ∧ Co u c d
/-- the bits of those that can be there with all of these -/
def common (B cs : List Nat) : Nat := cs.foldl (fun s c => s &&& (B[c]?).getD 0) ((B[cs.headD 0]?).getD 0)
theorem fold_and {B : List Nat} {d : Nat} : ∀ (cs : List Nat) (s : Nat), (cs.foldl (fun s c => s &&& (B[c]?).getD 0) s).testBit d = true ↔ s.testBit d = true ∧ ∀ c, c ∈ cs → ((B[c]?).getD 0).testBit d = true
  | [], s => by simp
  | c :: cs, s => by
    rw [List.foldl_cons, fold_and cs, Nat.testBit_and, Bool.and_eq_true]
    grind
theorem Beside.at_ {B : List Nat} (h : Beside u B) {c : Nat} (hc : c < u.conds.length) (d : Nat) : ((B[c]?).getD 0).testBit d = true ↔ d < u.conds.length ∧ c ≠ d ∧ Co u c d := by
  have : c < B.length := by rw [h.len]; exact hc
  rw [List.getElem?_eq_getElem this]
  exact h.bit c _ (List.getElem?_eq_getElem this) d
theorem common_bit {B : List Nat} (h : Beside u B) (hne : cs ≠ []) (hlt : ∀ c, c ∈ cs → c < u.conds.length) (d : Nat) : (common B cs).testBit d = true ↔ d < u.conds.length ∧ ∀ c, c ∈ cs → c ≠ d ∧ Co u c d := by
  unfold common
  rw [fold_and]
  cases cs with
  | nil => exact absurd rfl hne
  | cons a l =>
    have ha := hlt a (by simp)
    constructor
    · rintro ⟨h1, h2⟩
      refine ⟨((h.at_ ha d).mp (h2 a (by simp))).1, fun c hc => ((h.at_ (hlt c hc) d).mp (h2 c hc)).2⟩
    · rintro ⟨h1, h2⟩
      exact ⟨(h.at_ ha d).mpr ⟨h1, h2 a (by simp)⟩, fun c hc => (h.at_ (hlt c hc) d).mpr ⟨h1, h2 c hc⟩⟩
/-- what make_conditions makes of it -/
def grown_ (B : List Nat) (com n k : Nat) : List Nat := (B.mapIdx fun o b => if com.testBit o = true then b ||| pows (List.range' n k) else b) ++ (List.range' n k).map fun c => com ||| (pows (List.range' n k) - 2 ^ c)
theorem beside_grow {B : List Nat} {com : Nat} (G : Grow u v t cs tr off) (A : Good g m0 u) (P : Poss g u t cs) (h : Beside u B) (hc : ∀ d, com.testBit d = true ↔ d < u.conds.length ∧ ∀ c, c ∈ cs → c ≠ d ∧ Co u c d) :
    Beside v (grown_ B com u.conds.length tr.puts.length) := by
  have hcl := G.clen
  constructor
  · unfold grown_
    rw [List.length_append, List.length_mapIdx, List.length_map, List.length_range', h.len, hcl]
  · intro c b hb d
    unfold grown_ at hb
    by_cases hlt : c < u.conds.length
    · rw [List.getElem?_append_left (by rw [List.length_mapIdx, h.len]; exact hlt), List.getElem?_mapIdx] at hb
      have hl : c < B.length := by rw [h.len]; exact hlt
      rw [List.getElem?_eq_getElem hl] at hb
      have hb : (if com.testBit c = true then B[c] ||| pows (List.range' u.conds.length tr.puts.length) else B[c]) = b := by simpa using hb
      have hB := h.bit c _ (List.getElem?_eq_getElem hl) d
      by_cases hd : d < u.conds.length
      · rw [G.co_old A hlt hd]
        have hn : (pows (List.range' u.conds.length tr.puts.length)).testBit d = false := by
          cases q : (pows (List.range' u.conds.length tr.puts.length)).testBit d with
          | false => rfl
          | true => have := bit_range.mp q; omega
        have : b.testBit d = (B[c]).testBit d := by
          rw [← hb]
          split
          · rw [Nat.testBit_or, hn, Bool.or_false]
          · rfl
        rw [this, hB, hcl]
        constructor
        · rintro ⟨_, h2⟩; exact ⟨by omega, h2⟩
        · rintro ⟨_, h2⟩; exact ⟨hd, h2⟩
      · have hB0 : (B[c]).testBit d = false := by
          cases q : (B[c]).testBit d with
          | false => rfl
          | true => exact absurd (hB.mp q).1 hd
        constructor
        · intro hq
          rw [← hb] at hq
          split at hq
          · next hcom =>
            rw [Nat.testBit_or, hB0, Bool.false_or] at hq
            have hr := bit_range.mp hq
            refine ⟨by omega, by omega, (Co.symm ?_)⟩
            exact (G.co_new A P hr.1 (by omega) hlt).mpr ((hc c).mp hcom).2
          · rw [hB0] at hq; cases hq
        · rintro ⟨h1, h2, h3⟩
          have hcom : com.testBit c = true := (hc c).mpr ⟨hlt, (G.co_new A P (by omega) h1 hlt).mp h3.symm⟩
          rw [← hb, if_pos hcom, Nat.testBit_or, hB0, Bool.false_or]
          exact bit_range.mpr ⟨by omega, by omega⟩
    · rw [List.getElem?_append_right (by rw [List.length_mapIdx, h.len]; omega), List.length_mapIdx, h.len, List.getElem?_map] at hb
      have hj : c - u.conds.length < tr.puts.length := by
        cases q : (List.range' u.conds.length tr.puts.length)[c - u.conds.length]? with
        | none => rw [q] at hb; cases hb
        | some z => have := (List.getElem?_eq_some_iff.mp q).1; simpa using this
      rw [List.getElem?_eq_getElem (by simpa using hj), List.getElem_range'] at hb
      have ec : u.conds.length + 1 * (c - u.conds.length) = c := by omega
      rw [ec] at hb
      have hb : com ||| (pows (List.range' u.conds.length tr.puts.length) - 2 ^ c) = b := by simpa using hb
      rw [← hb, Nat.testBit_or, Bool.or_eq_true, bit_but (by omega) (by omega), hc]
      constructor
      · rintro (⟨h1, h2⟩ | ⟨⟨h1, h2⟩, h3⟩)
        · exact ⟨by omega, by omega, (G.co_new A P (by omega) (by omega) h1).mpr h2⟩
        · exact ⟨by omega, by omega, G.co_nn A P (by omega) (by omega) h1 (by omega)⟩
      · rintro ⟨h1, h2, h3⟩
        by_cases hd : d < u.conds.length
        · exact Or.inl ⟨hd, (G.co_new A P (by omega) (by omega) hd).mp h3⟩
        · exact Or.inr ⟨⟨by omega, by omega⟩, by omega⟩
end Nu
end
/-! # NuPoss -/
section
set_option linter.all false
namespace Nu
open Sq63
variable {g : Net} {m0 : Places} {u v : Unfolding} {t : Nat} {cs : List Nat} {tr : Transition} {off : Bool}

/-- the conditions of a place that an event may use -/
def usableOf (u : Unfolding) (p : Nat) : List Nat := (List.range u.conds.length).filter fun c => placeOf u c == p && u.open_ c
theorem mem_usable {p c : Nat} : c ∈ usableOf u p ↔ c < u.conds.length ∧ placeOf u c = p ∧ u.open_ c = true := by
  unfold usableOf
  rw [List.mem_filter, List.mem_range, Bool.and_eq_true, beq_iff_eq]
theorem usable_nodup (p : Nat) : (usableOf u p).Nodup := List.Nodup.sublist List.filter_sublist List.nodup_range
theorem usable_grow (G : Grow u v t cs tr off) (A : Good g m0 u) (p : Nat) : usableOf v p = usableOf u p ++ if off = true then [] else (List.range' u.conds.length tr.puts.length).filter fun c => placeOf v c == p := by
  unfold usableOf
  rw [G.clen, Grow.range_split, List.filter_append]
  congr 1
  · exact List.filter_congr fun c hc => by rw [G.place_old (List.mem_range.mp hc), G.open_old A (List.mem_range.mp hc)]
  · have k : ∀ c, c ∈ List.range' u.conds.length tr.puts.length → v.open_ c = !off := fun c hc => by
      have := List.mem_range'_1.mp hc
      exact G.open_new this.1 (by rw [G.clen]; exact this.2)
    cases off with
    | true =>
      rw [if_pos rfl, List.filter_eq_nil_iff]
      intro c hc
      rw [k c hc]
      simp
    | false =>
      rw [if_neg (by simp)]
      refine List.filter_congr fun c hc => ?_
      rw [k c hc]
      simp

/-- one place more, as the program does it -/
def rowsStep (U : Nat → List Nat) (B : List Nat) (rows : List (List Nat × Nat)) (p : Nat) : List (List Nat × Nat) :=
  rows.flatMap fun r => ((U p).filter fun c => r.2.testBit c).map fun c => (r.1 ++ [c], r.2 &&& (B[c]?).getD 0)
def choicesP (U : Nat → List Nat) (B : List Nat) (ps : List Nat) (near : Nat) : List (List Nat) := (ps.foldl (rowsStep U B) [([], near)]).map (·.1)
def Ext (U : Nat → List Nat) (B : List Nat) : List Nat → Nat → List Nat → Prop
  | [], _, r => r = []
  | p :: ps, fit, r => ∃ c r', r = c :: r' ∧ c ∈ U p ∧ fit.testBit c = true ∧ Ext U B ps (fit &&& (B[c]?).getD 0) r'
theorem mem_rows {U : Nat → List Nat} {B : List Nat} : ∀ (ps : List Nat) (rows : List (List Nat × Nat)) (ch : List Nat), ch ∈ (ps.foldl (rowsStep U B) rows).map (·.1) ↔ ∃ ch0 fit r, (ch0, fit) ∈ rows ∧ ch = ch0 ++ r ∧ Ext U B ps fit r
  | [], rows, ch => by
    simp only [List.foldl_nil, List.mem_map, Ext]
    constructor
    · rintro ⟨⟨a, b⟩, h, rfl⟩
      exact ⟨a, b, [], h, by simp, rfl⟩
    · rintro ⟨a, b, r, h, rfl, rfl⟩
      exact ⟨(a, b), h, by simp⟩
  | p :: ps, rows, ch => by
    rw [List.foldl_cons, mem_rows ps]
    constructor
    · rintro ⟨ch1, fit1, r, h1, rfl, h2⟩
      unfold rowsStep at h1
      simp only [List.mem_flatMap, List.mem_map, List.mem_filter, Prod.mk.injEq] at h1
      obtain ⟨⟨ch0, fit0⟩, h3, c, ⟨h4, h5⟩, rfl, rfl⟩ := h1
      exact ⟨ch0, fit0, c :: r, h3, by simp, c, r, rfl, h4, h5, h2⟩
    · rintro ⟨ch0, fit, r, h1, rfl, c, r', rfl, h2, h3, h4⟩
      refine ⟨ch0 ++ [c], fit &&& (B[c]?).getD 0, r', ?_, by simp, h4⟩
      unfold rowsStep
      simp only [List.mem_flatMap, List.mem_map, List.mem_filter, Prod.mk.injEq]
      exact ⟨(ch0, fit), h1, c, ⟨h2, h3⟩, rfl, rfl⟩
theorem mem_choicesP {U : Nat → List Nat} {B : List Nat} {ps ch : List Nat} {near : Nat} : ch ∈ choicesP U B ps near ↔ Ext U B ps near ch := by
  unfold choicesP
  rw [mem_rows]
  constructor
  · rintro ⟨a, b, r, h, rfl, h2⟩
    rw [List.mem_singleton, Prod.mk.injEq] at h
    obtain ⟨rfl, rfl⟩ := h
    simpa using h2
  · intro h
    exact ⟨[], near, ch, by simp, by simp, h⟩
theorem rows_nodup {U : Nat → List Nat} {B : List Nat} (hU : ∀ p, (U p).Nodup) : ∀ (ps : List Nat) (rows : List (List Nat × Nat)), (rows.map (·.1)).Nodup → ((ps.foldl (rowsStep U B) rows).map (·.1)).Nodup
  | [], rows, h => h
  | p :: ps, rows, h => by
    rw [List.foldl_cons]
    refine rows_nodup hU ps _ ?_
    unfold rowsStep
    rw [List.map_flatMap]
    induction rows with
    | nil => simp
    | cons r rows ih =>
      rw [List.map_cons, List.nodup_cons] at h
      rw [List.flatMap_cons, List.nodup_append]
      refine ⟨?_, ih h.2, ?_⟩
      · rw [List.map_map, List.Nodup, List.pairwise_map]
        refine List.Pairwise.imp ?_ (List.Nodup.sublist List.filter_sublist (hU p))
        intro a b hab q
        apply hab
        simpa using q
      · intro a ha b hb q
        subst q
        simp only [List.mem_map, List.mem_filter, List.mem_flatMap] at ha hb
        obtain ⟨_, ⟨c, _, rfl⟩, rfl⟩ := ha
        obtain ⟨r', hr', _, ⟨c', _, rfl⟩, hq⟩ := hb
        have : r'.1 = r.1 := by
          have := congrArg List.dropLast hq
          simpa using this
        exact h.1 (List.mem_map.mpr ⟨r', hr', this⟩)
theorem choicesP_nodup {U : Nat → List Nat} {B : List Nat} (hU : ∀ p, (U p).Nodup) (ps : List Nat) (near : Nat) : (choicesP U B ps near).Nodup := rows_nodup hU ps _ (by simp)
theorem fits_cons {p c : Nat} {ps r : List Nat} : Fits u (p :: ps) (c :: r) ↔ c ∈ usableOf u p ∧ Fits u ps r := by
  rw [mem_usable]
  constructor
  · intro h
    have hp := h.pl
    rw [List.map_cons, List.cons.injEq] at hp
    exact ⟨⟨h.lt c (by simp), hp.1, h.op c (by simp)⟩, fun d hd => h.lt d (by simp [hd]), hp.2, fun d hd => h.op d (by simp [hd])⟩
  · rintro ⟨⟨h1, h2, h3⟩, h⟩
    refine ⟨?_, by rw [List.map_cons, h2, h.pl], ?_⟩
    · intro d hd
      rcases List.mem_cons.mp hd with rfl | hd
      · exact h1
      · exact h.lt d hd
    · intro d hd
      rcases List.mem_cons.mp hd with rfl | hd
      · exact h3
      · exact h.op d hd
theorem ext_iff {B : List Nat} (hB : Beside u B) : ∀ (ps : List Nat) (fit : Nat) (r : List Nat), Ext (usableOf u) B ps fit r ↔ Fits u ps r ∧ (∀ c, c ∈ r → fit.testBit c = true) ∧ r.Pairwise fun c d => c ≠ d ∧ Co u c d
  | [], fit, r => by
    unfold Ext
    constructor
    · rintro rfl
      exact ⟨⟨by simp, rfl, by simp⟩, by simp, List.Pairwise.nil⟩
    · rintro ⟨h, _⟩
      exact List.eq_nil_of_length_eq_zero (by simpa using h.len)
  | p :: ps, fit, r => by
    unfold Ext
    constructor
    · rintro ⟨c, r', rfl, h1, h2, h3⟩
      obtain ⟨h4, h5, h6⟩ := (ext_iff hB ps _ r').mp h3
      have hc := (mem_usable.mp h1).1
      refine ⟨fits_cons.mpr ⟨h1, h4⟩, ?_, List.pairwise_cons.mpr ⟨fun d hd => ?_, h6⟩⟩
      · intro d hd
        rcases List.mem_cons.mp hd with rfl | hd
        · exact h2
        · have := h5 d hd
          rw [Nat.testBit_and, Bool.and_eq_true] at this
          exact this.1
      · have := h5 d hd
        rw [Nat.testBit_and, Bool.and_eq_true] at this
        exact ((hB.at_ hc d).mp this.2).2
    · rintro ⟨h1, h2, h3⟩
      cases r with
      | nil => have := h1.len; simp at this
      | cons c r' =>
        obtain ⟨h4, h5⟩ := fits_cons.mp h1
        have hc := (mem_usable.mp h4).1
        rw [List.pairwise_cons] at h3
        refine ⟨c, r', rfl, h4, h2 c (by simp), (ext_iff hB ps _ r').mpr ⟨h5, fun d hd => ?_, h3.2⟩⟩
        rw [Nat.testBit_and, Bool.and_eq_true]
        exact ⟨h2 d (by simp [hd]), (hB.at_ hc d).mpr ⟨h5.lt d hd, h3.1 d hd⟩⟩
theorem pair_tog (A : Good g m0 u) {ps : List Nat} (hF : Fits u ps cs) (hps : ps.Nodup) : (cs.Pairwise fun c d => c ≠ d ∧ Co u c d) ↔ together u cs = true := by
  rw [together_co]
  constructor
  · intro h c hc d hd
    by_cases e : c = d
    · subst e; exact A.co_self c
    · have : ∀ {l : List Nat}, (l.Pairwise fun c d => c ≠ d ∧ Co u c d) → ∀ c, c ∈ l → ∀ d, d ∈ l → c ≠ d → Co u c d := by
        intro l hl
        induction l with
        | nil => intro c hc; simp at hc
        | cons a l ih =>
          rw [List.pairwise_cons] at hl
          intro c hc d hd hne
          rcases List.mem_cons.mp hc with h1 | h1 <;> rcases List.mem_cons.mp hd with h2 | h2
          · exact absurd (h1.trans h2.symm) hne
          · rw [h1]; exact (hl.1 d h2).2
          · rw [h2]; exact (hl.1 c h1).2.symm
          · exact ih hl.2 c h1 d h2 hne
      exact this h c hc d hd e
  · intro h
    have hn : cs.Nodup := by
      rw [← hF.pl] at hps
      rw [List.Nodup, List.pairwise_map] at hps
      exact hps.imp fun q e => q (by rw [e])
    exact List.Pairwise.imp_of_mem (fun {a b} ha hb hne => ⟨hne, h a ha b hb⟩) hn
/-- the program's choices: those of the specification that lie near -/
theorem choicesP_iff (A : Good g m0 u) {B : List Nat} (hB : Beside u B) {ps : List Nat} (hps : ps.Nodup) {near : Nat} : cs ∈ choicesP (usableOf u) B ps near ↔ Fits u ps cs ∧ together u cs = true ∧ ∀ c, c ∈ cs → near.testBit c = true := by
  rw [mem_choicesP, ext_iff hB]
  constructor
  · rintro ⟨h1, h2, h3⟩
    exact ⟨h1, (pair_tog A h1 hps).mp h3, h2⟩
  · rintro ⟨h1, h2, h3⟩
    exact ⟨h1, h3, (pair_tog A h1 hps).mpr h2⟩

/-! ### what is possible with conditions just made -/
abbrev PKey := Nat × Nat × List Nat
def possAt (u : Unfolding) (B made : List Nat) (near : Nat) (x : Transition × Nat) : List PKey :=
  ((choicesP (usableOf u) B x.1.takes near).filter fun used => used.any fun c => made.contains c).map fun used => ((needAll u used).length + 1, x.2, used)
def possWith (g : Net) (u : Unfolding) (B made : List Nat) : List PKey := if made.length = 0 then [] else
  (g.ts.zipIdx).flatMap (possAt u B made ((B[made.headD 0]?).getD 0 ||| 2 ^ made.headD 0))
/-- made at one time: what one can be there with the others can, too -/
structure AtOnce (u : Unfolding) (made : List Nat) : Prop where
  lt : ∀ c, c ∈ made → c < u.conds.length
  co : ∀ c, c ∈ made → ∀ d, d < u.conds.length → Co u c d → ∀ x, x ∈ made → x = d ∨ Co u x d
theorem mem_possWith (A : Good g m0 u) (N : NetOk g m0) {B made : List Nat} (hB : Beside u B) (hm : AtOnce u made) {k t : Nat} : (k, t, cs) ∈ possWith g u B made ↔
    (∃ tr, g.ts[t]? = some tr ∧ Fits u tr.takes cs) ∧ together u cs = true ∧ (∃ c, c ∈ cs ∧ c ∈ made) ∧ k = (needAll u cs).length + 1 := by
  unfold possWith
  by_cases h0 : made.length = 0
  · rw [if_pos h0]
    have : made = [] := List.eq_nil_of_length_eq_zero h0
    subst this
    simp
  · rw [if_neg h0]
    cases made with
    | nil => simp at h0
    | cons a l =>
      have ha := hm.lt a (by simp)
      simp only [List.headD_cons, List.mem_flatMap, possAt, List.mem_map, List.mem_filter, Prod.mk.injEq]
      constructor
      · rintro ⟨⟨tr, i⟩, hz, used, ⟨h1, h2⟩, rfl, rfl, rfl⟩
        have hz := List.mem_zipIdx_iff_getElem?.mp hz
        obtain ⟨h3, h4, h5⟩ := (choicesP_iff A hB (rise_nodup (N.takes tr (List.mem_of_getElem? hz)))).mp h1
        refine ⟨⟨tr, hz, h3⟩, h4, ?_, rfl⟩
        simp only [List.any_eq_true] at h2
        obtain ⟨c, h6, h7⟩ := h2
        exact ⟨c, h6, by simpa using h7⟩
      · rintro ⟨⟨tr, h1, h2⟩, h3, ⟨c, h4, h5⟩, rfl⟩
        refine ⟨(tr, t), List.mem_zipIdx_iff_getElem?.mpr h1, cs, ⟨?_, ?_⟩, rfl, rfl, rfl⟩
        · refine (choicesP_iff A hB (rise_nodup (N.takes tr (List.mem_of_getElem? h1)))).mpr ⟨h2, h3, fun d hd => ?_⟩
          rw [Nat.testBit_or, Bool.or_eq_true]
          by_cases e : a = d
          · right; rw [e, Nat.testBit_two_pow_self]
          · left
            refine (hB.at_ ha d).mpr ⟨h2.lt d hd, e, ?_⟩
            rcases hm.co c h5 d (h2.lt d hd) (together_co.mp h3 c h4 d hd) a (by simp) with h | h
            · exact absurd h e
            · exact h
        · simp only [List.any_eq_true]
          exact ⟨c, h4, by simpa using h5⟩
theorem flatMap_nodup {α β : Type} {f : α → List β} {k : β → Nat} : ∀ {l : List α} {n : α → Nat}, (∀ a, a ∈ l → (f a).Nodup) → (∀ a, a ∈ l → ∀ b, b ∈ f a → k b = n a) → (l.map n).Nodup → (l.flatMap f).Nodup
  | [], _, _, _, _ => by simp
  | a :: l, n, h1, h2, h3 => by
    rw [List.map_cons, List.nodup_cons] at h3
    rw [List.flatMap_cons, List.nodup_append]
    refine ⟨h1 a (by simp), flatMap_nodup (fun x hx => h1 x (by simp [hx])) (fun x hx => h2 x (by simp [hx])) h3.2, ?_⟩
    intro x hx y hy q
    subst q
    obtain ⟨b, hb, hy⟩ := List.mem_flatMap.mp hy
    have e1 := h2 a (by simp) x hx
    have e2 := h2 b (by simp [hb]) x hy
    exact h3.1 (List.mem_map.mpr ⟨b, hb, by rw [← e2, e1]⟩)
theorem possWith_nodup {B made : List Nat} : (possWith g u B made).Nodup := by
  unfold possWith
  split
  · simp
  · refine flatMap_nodup (k := fun z => z.2.1) (n := fun x => x.2) (fun a ha => ?_) (fun a ha b hb => ?_) ?_
    · unfold possAt
      rw [List.Nodup, List.pairwise_map]
      refine List.Pairwise.imp ?_ (List.Nodup.sublist List.filter_sublist (choicesP_nodup (usable_nodup) _ _))
      intro x y hne q
      simp only [Prod.mk.injEq] at q
      exact hne q.2.2
    · unfold possAt at hb
      obtain ⟨x, _, rfl⟩ := List.mem_map.mp hb
      rfl
    · rw [List.zipIdx_map_snd]
      exact List.nodup_range'
/-- the program's row of what is possible -/
structure PossList (g : Net) (u : Unfolding) (L : List PKey) : Prop where
  nd : L.Nodup
  mem : ∀ k t cs, (k, t, cs) ∈ L ↔ Poss g u t cs ∧ k = (needAll u cs).length + 1
def start (m0 : Places) : Unfolding := ⟨m0.map fun p => ⟨p, none⟩, []⟩
theorem start_maker (c : Nat) : makerOf (start m0) c = none := by
  unfold makerOf start
  show ((m0.map fun p => (⟨p, none⟩ : Cond))[c]?).bind _ = none
  rw [List.getElem?_map]
  cases m0[c]? <;> rfl
theorem start_co (c d : Nat) : Co (start m0) c d := by
  unfold Co
  rw [needsOf_none (start_maker c), needsOf_none (start_maker d)]
  exact ⟨by rintro ⟨e, he, _⟩; simp at he, by simp, by simp⟩
theorem start_first : firstOf (start m0) = List.range m0.length := by
  unfold firstOf
  rw [List.filter_eq_self.mpr (fun c hc => by rw [start_maker c]; rfl)]
  simp [start]
theorem start_beside : Beside (start m0) ((List.range m0.length).map fun c => pows (List.range' 0 m0.length) - 2 ^ c) := by
  refine ⟨by simp [start], fun c b hb d => ?_⟩
  have hc : c < m0.length := by
    have := (List.getElem?_eq_some_iff.mp hb).1
    simpa using this
  rw [List.getElem?_map, List.getElem?_eq_getElem (by simpa using hc), List.getElem_range] at hb
  have hb : pows (List.range' 0 m0.length) - 2 ^ c = b := by simpa using hb
  rw [← hb, bit_but (by omega) (by omega)]
  have : (start m0).conds.length = m0.length := by simp [start]
  rw [this]
  constructor
  · rintro ⟨⟨_, h1⟩, h2⟩
    exact ⟨by omega, Ne.symm h2, start_co c d⟩
  · rintro ⟨h1, h2, _⟩
    exact ⟨⟨by omega, by omega⟩, Ne.symm h2⟩
theorem start_once : AtOnce (start m0) (firstOf (start m0)) := ⟨fun c hc => Grow.first_lt hc, fun c _ d _ _ x _ => Or.inr (start_co x d)⟩
theorem start_poss (N : NetOk g m0) {B : List Nat} (hB : Beside (start m0) B) : PossList g (start m0) (possWith g (start m0) B (firstOf (start m0))) := by
  refine ⟨possWith_nodup, fun k t cs => ?_⟩
  rw [mem_possWith (show Good g m0 (start m0) from good_start) N hB start_once]
  constructor
  · rintro ⟨h1, h2, h3, h4⟩
    exact ⟨⟨h1, h2, fun e x hx => by simp [start] at hx⟩, h4⟩
  · rintro ⟨⟨⟨tr, h1, h1'⟩, h2, h3⟩, h4⟩
    refine ⟨⟨tr, h1, h1'⟩, h2, ?_, h4⟩
    have := N.some_ tr (List.mem_of_getElem? h1)
    cases cs with
    | nil => have q := h1'.pl; simp at q; exact absurd q this
    | cons c l => exact ⟨c, by simp, by rw [start_first]; simpa [start] using h1'.lt c (by simp)⟩
theorem grow_once (G : Grow u v t cs tr off) (A : Good g m0 u) (P : Poss g u t cs) : AtOnce v (madeOf v u.events.length) := by
  rw [G.made_new A]
  have hcl := G.clen
  have hr : ∀ c, c ∈ List.range' u.conds.length tr.puts.length → u.conds.length ≤ c ∧ c < v.conds.length := fun c hc => by
    have := List.mem_range'_1.mp hc
    omega
  refine ⟨fun c hc => (hr c hc).2, fun c hc d hd hco x hx => ?_⟩
  by_cases h : d < u.conds.length
  · right
    exact (G.co_new A P (hr x hx).1 (hr x hx).2 h).mpr ((G.co_new A P (hr c hc).1 (hr c hc).2 h).mp hco)
  · right
    exact G.co_nn A P (hr x hx).1 (hr x hx).2 (by omega) hd
theorem grow_poss (G : Grow u v t cs tr off) (A : Good g m0 u) (N : NetOk g m0) (P : Poss g u t cs) (ht : g.ts[t]? = some tr) {B : List Nat} (hB : Beside v B) {L : List PKey} (hL : PossList g u L) :
    PossList g v (L.erase ((needAll u cs).length + 1, t, cs) ++ if off = true then [] else possWith g v B (madeOf v u.events.length)) := by
  have Gv := G.good A P ht
  have hcl := G.clen
  have once := grow_once G A P
  have hmade : ∀ c, c ∈ madeOf v u.events.length ↔ u.conds.length ≤ c ∧ c < v.conds.length := by
    intro c
    rw [G.made_new A, List.mem_range'_1]
    omega
  have hfit : ∀ {ps ds : List Nat}, (∀ c, c ∈ ds → c < u.conds.length) → (Fits v ps ds ↔ Fits u ps ds) := by
    intro ps ds h
    constructor
    · intro F
      exact ⟨h, by rw [← G.map_place_old h]; exact F.pl, fun c hc => by rw [← G.open_old A (h c hc)]; exact F.op c hc⟩
    · intro F
      exact ⟨fun c hc => by have := h c hc; omega, by rw [G.map_place_old h]; exact F.pl, fun c hc => by rw [G.open_old A (h c hc)]; exact F.op c hc⟩
  obtain ⟨tr', ht', Fc⟩ := P.fit
  constructor
  · rw [List.nodup_append]
    refine ⟨hL.nd.erase _, ?_, ?_⟩
    · split
      · simp
      · exact possWith_nodup
    · intro a ha b hb q
      subst q
      obtain ⟨k, t', cs'⟩ := a
      split at hb
      · simp at hb
      · obtain ⟨_, _, ⟨c, h1, h2⟩, _⟩ := (mem_possWith Gv N hB once).mp hb
        have := (hL.mem k t' cs').mp (List.mem_of_mem_erase ha)
        obtain ⟨tr2, _, F2⟩ := this.1.fit
        have h3 := F2.lt c h1
        have h4 := (hmade c).mp h2
        omega
  · intro k t' cs'
    rw [List.mem_append, List.Nodup.mem_erase_iff hL.nd, hL.mem]
    by_cases hold : ∀ c, c ∈ cs' → c < u.conds.length
    · have hnot : (k, t', cs') ∉ (if off = true then [] else possWith g v B (madeOf v u.events.length)) := by
        split
        · simp
        · intro hb
          obtain ⟨_, _, ⟨c, h1, h2⟩, _⟩ := (mem_possWith Gv N hB once).mp hb
          have h3 := hold c h1
          have h4 := (hmade c).mp h2
          omega
      rw [G.needAll_old A hold]
      constructor
      · rintro (⟨h1, h2, h3⟩ | h)
        · obtain ⟨tr2, ht2, F2⟩ := h2.fit
          refine ⟨⟨⟨tr2, ht2, (hfit hold).mpr F2⟩, by rw [G.together_old A hold]; exact h2.tog, fun e x hx hxt hxu => ?_⟩, h3⟩
          by_cases he : e < u.events.length
          · rw [G.ev_old he] at hx
            exact h2.new e x hx hxt hxu
          · have := (List.getElem?_eq_some_iff.mp hx).1
            rw [G.elen] at this
            have he : e = u.events.length := by omega
            subst he
            rw [G.ev_new] at hx
            cases hx
            simp only at hxt hxu
            subst hxt hxu
            exact h1 (by rw [h3])
        · exact absurd h hnot
      · rintro ⟨h2, h3⟩
        obtain ⟨tr2, ht2, F2⟩ := h2.fit
        refine Or.inl ⟨?_, ⟨⟨tr2, ht2, (hfit hold).mp F2⟩, by rw [← G.together_old A hold]; exact h2.tog, fun e x hx hxt hxu => ?_⟩, h3⟩
        · intro q
          simp only [Prod.mk.injEq] at q
          exact h2.new u.events.length _ G.ev_new q.2.1.symm q.2.2.symm
        · have he := (List.getElem?_eq_some_iff.mp hx).1
          exact h2.new e x (by rw [G.ev_old he]; exact hx) hxt hxu
    · have hex : ∃ c, c ∈ cs' ∧ u.conds.length ≤ c := by
        apply Classical.byContradiction
        intro hne
        apply hold
        intro c hc
        apply Classical.byContradiction
        intro hlt
        exact hne ⟨c, hc, by omega⟩
      obtain ⟨c, hc, hcn⟩ := hex
      have hno : ¬ ((k, t', cs') ≠ ((needAll u cs).length + 1, t, cs) ∧ Poss g u t' cs' ∧ k = (needAll u cs').length + 1) := by
        rintro ⟨_, h2, _⟩
        obtain ⟨_, _, F2⟩ := h2.fit
        have := F2.lt c hc
        omega
      constructor
      · rintro (h | h)
        · exact absurd h hno
        · split at h
          · simp at h
          · obtain ⟨h1, h2, _, h4⟩ := (mem_possWith Gv N hB once).mp h
            refine ⟨⟨h1, h2, fun e x hx hxt hxu => ?_⟩, h4⟩
            have he := (List.getElem?_eq_some_iff.mp hx).1
            rw [G.elen] at he
            by_cases he2 : e < u.events.length
            · rw [G.ev_old he2] at hx
              have := (A.ev e x hx).lt c (by rw [hxu]; exact hc)
              omega
            · have he : e = u.events.length := by omega
              subst he
              rw [G.ev_new] at hx
              cases hx
              have := Fc.lt c (by rw [show cs = cs' from hxu]; exact hc)
              omega
      · rintro ⟨h2, h3⟩
        right
        obtain ⟨tr2, ht2, F2⟩ := h2.fit
        have ho := F2.op c hc
        have hlt := F2.lt c hc
        rw [G.open_new hcn hlt] at ho
        have : off = false := by simpa using ho
        rw [this, if_neg (by simp)]
        exact (mem_possWith Gv N hB once).mpr ⟨⟨tr2, ht2, F2⟩, h2.tog, ⟨c, hc, (hmade c).mpr ⟨hcn, hlt⟩⟩, h3⟩
/-- the least of the row is the soonest -/
theorem least_soonest {L : List PKey} (hL : PossList g u L) {k t : Nat} {cs : List Nat} (h : (k, t, cs) ∈ L) (hm : ∀ y, y ∈ L → ¬ keyLt y (k, t, cs)) : soonest (possible g u) = some (t, (cs, needAll u cs)) := by
  obtain ⟨h1, h2⟩ := (hL.mem k t cs).mp h
  refine soonest_of h1 fun t' cs' h' q => ?_
  refine hm _ ((hL.mem _ t' cs').mpr ⟨h', rfl⟩) ?_
  rw [h2]
  unfold keyLt at q ⊢
  rcases q with q | ⟨q1, q2⟩
  · exact Or.inl (Nat.succ_lt_succ q)
  · exact Or.inr ⟨congrArg Nat.succ q1, q2⟩
theorem none_soonest (hL : PossList g u []) : soonest (possible g u) = none := soonest_no fun t cs h => by
  have := (hL.mem _ t cs).mpr ⟨h, rfl⟩
  simp at this
end Nu
end
/-! # NuR8 -/
section
set_option Elab.async false
set_option maxRecDepth 100000
set_option maxHeartbeats 4000000
set_option linter.all false
namespace NuR
open PySem PySem.Spec PyProof.Rows L2
theorem lex_trans : ∀ {a b c : List Int}, HT.lexLt a b = true → HT.lexLt b c = true → HT.lexLt a c = true
  | [], [], _, h, _ => by rw [HT.lexLt_nil_nil] at h; cases h
  | [], _ :: _, [], _, h => by rw [HT.lexLt_cons_nil] at h; cases h
  | [], _ :: _, _ :: _, _, _ => HT.lexLt_nil_cons _ _
  | _ :: _, [], _, h, _ => by rw [HT.lexLt_cons_nil] at h; cases h
  | _ :: _, _ :: _, [], _, h => by rw [HT.lexLt_cons_nil] at h; cases h
  | x :: a, y :: b, z :: c, h1, h2 => by
    rw [HT.lexLt_cons] at h1 h2 ⊢
    by_cases q1 : x = y
    · subst q1
      rw [if_pos rfl] at h1
      by_cases q2 : x = z
      · subst q2
        rw [if_pos rfl] at h2 ⊢
        exact lex_trans h1 h2
      · rw [if_neg q2] at h2 ⊢
        exact h2
    · rw [if_neg q1] at h1
      have h1 := of_decide_eq_true h1
      by_cases q2 : y = z
      · subst q2
        rw [if_neg q1]
        exact decide_eq_true h1
      · rw [if_neg q2] at h2
        have h2 := of_decide_eq_true h2
        rw [if_neg (by omega)]
        exact decide_eq_true (by omega)
theorem kLt_irr (a : IKey) : kLt a a = false := by simp [kLt, lexLt_self]
theorem kLt_trans {a b c : IKey} (h1 : kLt a b = true) (h2 : kLt b c = true) : kLt a c = true := by
  obtain ⟨a1, a2, a3⟩ := a
  obtain ⟨b1, b2, b3⟩ := b
  obtain ⟨c1, c2, c3⟩ := c
  unfold kLt at *
  simp only at *
  split at h1 <;> split at h2
  · next q1 q2 =>
    subst q1 q2
    rw [if_pos rfl]
    split at h1 <;> split at h2
    · next q3 q4 =>
      subst q3 q4
      rw [if_pos rfl]
      exact lex_trans h1 h2
    · next q3 q4 => subst q3; rw [if_neg q4]; exact h2
    · next q3 q4 => subst q4; rw [if_neg q3]; exact h1
    · have h1 := of_decide_eq_true h1
      have h2 := of_decide_eq_true h2
      rw [if_neg (by omega)]
      exact decide_eq_true (by omega)
  · next q1 q2 => subst q1; rw [if_neg q2]; exact h2
  · next q1 q2 => subst q2; rw [if_neg q1]; exact h1
  · have h1 := of_decide_eq_true h1
    have h2 := of_decide_eq_true h2
    rw [if_neg (by omega)]
    exact decide_eq_true (by omega)
theorem argBest_key (f : Nat → IKey) : ∀ k, argBest (fun i j => kLt (f i) (f j)) k ≤ k ∧ ∀ j, j ≤ k → kLt (f j) (f (argBest (fun i j => kLt (f i) (f j)) k)) = false
  | 0 => ⟨Nat.le_refl _, fun j hj => by
    obtain rfl : j = 0 := by omega
    exact kLt_irr _⟩
  | k + 1 => by
    obtain ⟨h1, h2⟩ := argBest_key f k
    by_cases q : kLt (f (k + 1)) (f (argBest (fun i j => kLt (f i) (f j)) k)) = true
    · have e : argBest (fun i j => kLt (f i) (f j)) (k + 1) = k + 1 := if_pos q
      rw [e]
      refine ⟨Nat.le_refl _, fun j hj => ?_⟩
      rcases Nat.lt_or_eq_of_le hj with hj | rfl
      · cases q2 : kLt (f j) (f (k + 1)) with
        | false => rfl
        | true =>
          have := h2 j (by omega)
          rw [kLt_trans q2 q] at this
          cases this
      · exact kLt_irr _
    · have e : argBest (fun i j => kLt (f i) (f j)) (k + 1) = argBest (fun i j => kLt (f i) (f j)) k := if_neg q
      rw [e]
      refine ⟨by omega, fun j hj => ?_⟩
      rcases Nat.lt_or_eq_of_le hj with hj | rfl
      · exact h2 j (by omega)
      · exact Bool.eq_false_iff.mpr q
theorem readsAll_at {h : Heap} : ∀ {vs : List Value} {ds : List PyData} {as : List Addr}, ReadsAll h vs ds as → ∀ (j : Nat) (v : Value) (d : PyData), vs[j]? = some v → ds[j]? = some d → ∃ as, Reads h v d as
  | _, _, _, .nil, j, v, d, hv, _ => by simp at hv
  | _, _, _, .cons r t, 0, v, d, hv, hd => by
    have e1 := Option.some.inj hv
    have e2 := Option.some.inj hd
    subst e1 e2
    exact ⟨_, r⟩
  | _, _, _, .cons r t, j + 1, v, d, hv, hd => readsAll_at t j v d hv hd
mutual
theorem reads_up {h h' : Heap} (k : ∀ b o, h.get? b = some o → h'.get? b = some o) : ∀ {v : Value} {d : PyData} {as : List Addr}, Reads h v d as → Reads h' v d as
  | _, _, _, .none => .none
  | _, _, _, .bool b => .bool b
  | _, _, _, .int i t => .int i t
  | _, _, _, .str x t => .str x t
  | _, _, _, .list g1 g2 g3 g4 => .list (k _ _ g1) g2 g3 (readsAll_up k g4)
  | _, _, _, .tuple g1 g2 g3 g4 => .tuple (k _ _ g1) g2 g3 (readsAll_up k g4)
  | _, _, _, .dict g1 g2 g3 g4 g5 => .dict (k _ _ g1) g2 g3 (readsAll_up k g4) (readsAll_up k g5)
theorem readsAll_up {h h' : Heap} (k : ∀ b o, h.get? b = some o → h'.get? b = some o) : ∀ {vs : List Value} {ds : List PyData} {as : List Addr}, ReadsAll h vs ds as → ReadsAll h' vs ds as
  | _, _, _, .nil => .nil
  | _, _, _, .cons r t => .cons (reads_up k r) (readsAll_up k t)
end
section
variable {X : Cx}
def rMinKey (K : PySem.W.Frag) : List V → Hp → VK → Prop := fun vs H Q => ∃ (a : Addr) (xs : List V) (L : List IKey), vs = [V.ref a] ∧ SqL K H a xs ∧ DpAll K H xs (L.map kd) ∧ 0 < L.length ∧
  ∀ (j : Nat) (z : IKey) (v : V), L[j]? = some z → xs[j]? = some v → (∀ y, y ∈ L → kLt y z = false) → Q v H
/-- min(xs) of keys -/
theorem cr_minKey (hc : X.calm = true) (hu : X.A.units + 64 < cLine) : CallR X (.builtin "min") (rMinKey X.K) := by
  intro pins s σ H vs us Q I r h
  obtain ⟨a, xs, L, rfl, hs, hd, hne, q⟩ := h
  obtain ⟨its, rv, hl, _⟩ := I.list hs
  rw [Vals.ref1 r]
  obtain ⟨as, ra⟩ := Dp.readsAll I (L.map kd) _ its hd rv
  have hn : its.length = L.length := by rw [SeqAt.ReadsAll.length _ its as ra, List.length_map]
  have hb := argBest_key (fun i => L.getD i (0, 0, [])) (L.length - 1)
  refine min_list (bt := fun i j => kLt (L.getD i (0, 0, [])) (L.getD j (0, 0, []))) (I.ok.hd hc) hl.isList (by simpa [hn] using hne) (fun i j vi vj s2 Q2 E2 old ei ej qq => ?_) fun v h' tk hv old => ?_
  · have at_ : ∀ m u, its.toArray[m]? = some u → ∃ bs, Reads s2.heap u (kd (L.getD m (0, 0, []))) bs := fun m u hu => by
      have hu : its[m]? = some u := by simpa using hu
      have hm : m < L.length := by
        have := (List.getElem?_eq_some_iff.mp hu).1
        omega
      exact readsAll_at (readsAll_up old ra) m u _ hu (by rw [List.getElem?_map, List.getD_eq_getElem?_getD, List.getElem?_eq_getElem hm]; rfl)
    obtain ⟨b1, r1⟩ := at_ i vi ei
    obtain ⟨b2, r2⟩ := at_ j vj ej
    exact key_lt r1 r2 (by show X.A.units + 1 + 9 < cLine; omega) _ _ _ _ qq
  · have hsz : its.toArray.size = L.length := by simp [hn]
    rw [hsz] at hv
    have hv : its[argBest (fun i j => kLt (L.getD i (0, 0, [])) (L.getD j (0, 0, []))) (L.length - 1)]? = some v := by simpa using hv
    have hxl : argBest (fun i j => kLt (L.getD i (0, 0, [])) (L.getD j (0, 0, []))) (L.length - 1) < xs.length := by
      rw [Vals.length rv]
      exact (List.getElem?_eq_some_iff.mp hv).1
    have hx := List.getElem?_eq_getElem hxl
    obtain ⟨u, hu2, rx⟩ := Vals.get rv hx
    rw [hv] at hu2
    cases hu2
    have hj : argBest (fun i j => kLt (L.getD i (0, 0, [])) (L.getD j (0, 0, []))) (L.length - 1) < L.length := by omega
    refine ⟨_, H, I.kept (t' := tk) old, rx, q _ _ _ (List.getElem?_eq_getElem hj) hx fun y hy => ?_⟩
    obtain ⟨m, hm, rfl⟩ := List.mem_iff_getElem.mp hy
    have := hb.2 m (by omega)
    generalize argBest (fun i j => kLt (L.getD i (0, 0, [])) (L.getD j (0, 0, []))) (L.length - 1) = B at *
    rw [List.getD_eq_getElem?_getD, List.getD_eq_getElem?_getD, List.getElem?_eq_getElem hm, List.getElem?_eq_getElem hj] at this
    exact this
end
end NuR
end
/-! # NuP1 -/
section
set_option Elab.async false
set_option maxRecDepth 100000
set_option maxHeartbeats 4000000
set_option linter.all false
namespace NuP
open PySem PySem.Spec PyProof.Rows L2
def top (i : Nat) : Stmt := PySem.Challenge.pw_netsunfolded_s01_answers.main.body.getD i (.Pass ⟨0, 0, 0, 0⟩)
/-- the classes -/
structure Cs where
  R : Addr
  T : Addr
  N : Addr
  C : Addr
  E : Addr
  U : Addr
  L : Addr
/-- a class of the program's: its instances, its attributes -/
structure ClsT (K : PySem.W.Frag) (mg : Str → Option Value) (x : Str) (C : Addr) (fs : List Str) : Prop where
  cl : Cls K C
  gl : mg x = some (.ref C)
  no : ∀ f, f ∈ fs → NoAttr K C f
abbrev natV (n : Nat) : V := .int (n : Int)
def nats (l : List Nat) : List V := l.map natV
theorem nats_len (l : List Nat) : (nats l).length = l.length := List.length_map ..
theorem nats_ints (l : List Nat) : nats l = (l.map Int.ofNat).map V.int := by rw [nats, List.map_map]; rfl
theorem nats_at (l : List Nat) (i : Nat) : (nats l)[i]? = (l[i]?).map natV := List.getElem?_map ..
theorem nats_get {l : List Nat} {i : Nat} {y : V} (h : (nats l)[i]? = some y) : ∃ n, l[i]? = some n ∧ y = natV n := by
  rw [nats_at] at h
  cases e : l[i]? with
  | none => rw [e] at h; cases h
  | some n => rw [e] at h; exact ⟨n, rfl, (Option.some.inj h).symm⟩
theorem nats_app (a b : List Nat) : nats (a ++ b) = nats a ++ nats b := List.map_append ..
section
variable {P : Program} {w : World} {K : PySem.W.Frag} {mg : Str → Option Value} {base : Heap}
/-! ### has_bit -/
abbrev sHas : Stmt := top 16
def spHas : Sp := fun vs H Q _ => ∃ b n : Nat, vs = [natV b, natV n] ∧ Q (.bl (b.testBit n)) H
theorem scHas : FnScope ["bits", "number"] ["bits", "number"] (defScope sHas) := ⟨rfl, rfl, rfl, by decide +kernel, rfl, by decide +kernel, by decide +kernel⟩
theorem shr_bit (b n : Nat) : decide (Builtin.bitAnd ((b : Int) / 2 ^ ((n : Int)).toNat) 1 = 1) = b.testBit n := by
  have e : ((b : Int) / 2 ^ ((n : Int)).toNat) = ((b >>> n : Nat) : Int) := by
    rw [Int.toNat_natCast, Nat.shiftRight_eq_div_pow]
    exact_mod_cast rfl
  rw [e, show (1 : Int) = ((1 : Nat) : Int) from rfl, PySem.W.os_band, Nat.testBit]
  rw [Nat.and_comm]
  cases h : (1 &&& b >>> n) with
  | zero => simp
  | succ k => 
    have : 1 &&& b >>> n ≤ 1 := Nat.and_le_left
    have hk : k = 0 := by omega
    subst hk
    simp
theorem ok_has {f : Addr} {fd : FuncData} (F : Fun K "has_bit" "has_bit" sHas f fd) : FnOk P w K mg base CX0 1 f fd ["bits", "number"] spHas := by
  refine F.ok scHas (fun vs H Q E h => ?_) (fun cdv A outer s H vs Q E hr h => ?_)
  · obtain ⟨b, n, rfl, _⟩ := h
    rfl
  · obtain ⟨b, n, rfl, q⟩ := h
    refine ⟨_, pss_one (ps_ret (pe_cmpR op_eq (pe_op op_and (pe_op op_shr (pv 0) (pv 1)) pe_int) pe_int (nomark _))), ?_⟩
    refine ⟨_, rfl, _, rfl, _, _, rfl, rfl, Int.natCast_nonneg n, _, _, rfl, rfl, rfl, ?_⟩
    have e : decide (V.int (Builtin.bitAnd ((b : Int) / 2 ^ ((n : Int)).toNat) 1) = V.int 1) = b.testBit n := by
      rw [← shr_bit b n, dec_int]
      rfl
    exact e.symm ▸ q
/-! ### attributes -/
theorem look {k : Str} {v : V} : ∀ {fs : List (Str × V)} {ns : List Str} (i : Nat), fs.map (·.1) = ns → ns.findIdx? (· == k) = some i → fs[i]?.map (·.2) = some v → fs.lookup k = some v
  | [], _, i, e, h, _ => by subst e; simp at h
  | (g, x) :: fs, _, i, e, h, hv => by
    subst e
    rw [List.map_cons, List.findIdx?_cons] at h
    by_cases q : (g == k) = true
    · rw [if_pos q] at h
      cases h
      have q' : (k == g) = true := by rw [eq_of_beq q]; exact beq_self_eq_true k
      simp only [List.lookup, q']
      simpa using hv
    · rw [if_neg q] at h
      cases i with
      | zero => simp at h
      | succ i =>
        have q' : (k == g) = false := by
          cases q2 : (k == g) with
          | false => rfl
          | true => exact absurd (by rw [← eq_of_beq q2]; exact beq_self_eq_true k) q
        simp only [List.lookup, q']
        refine look i rfl ?_ (by simpa using hv)
        cases q3 : (fs.map (·.1)).findIdx? (· == k) with
        | none => rw [q3] at h; cases h
        | some m => rw [q3] at h; simpa using h
theorem nolook {k : Str} : ∀ {fs : List (Str × V)} {ns : List Str}, fs.map (·.1) = ns → ns.any (· == k) = false → fs.lookup k = none
  | [], _, _, _ => rfl
  | (g, x) :: fs, _, e, h => by
    subst e
    rw [List.map_cons, List.any_cons, Bool.or_eq_false_iff] at h
    have q' : (k == g) = false := by
      cases q2 : (k == g) with
      | false => rfl
      | true =>
        have := h.1
        rw [← eq_of_beq q2, beq_self_eq_true] at this
        cases this
    simp only [List.lookup, q']
    exact nolook rfl h.2
theorem putN {k : Str} {v : V} : ∀ {fs : List (Str × V)} {ns : List Str}, fs.map (·.1) = ns → ns.any (· == k) = false → putF k v fs = fs ++ [(k, v)]
  | [], _, _, _ => rfl
  | (g, x) :: fs, _, e, h => by
    subst e
    rw [List.map_cons, List.any_cons, Bool.or_eq_false_iff] at h
    have q : ¬ g = k := fun e => by
      have := h.1
      rw [e, beq_self_eq_true] at this
      cases this
    show (if g = k then (g, v) :: fs else (g, x) :: putF k v fs) = _
    rw [if_neg q, putN rfl h.2]
    rfl
theorem putA {k : Str} {v : V} : ∀ {fs : List (Str × V)} {ns : List Str} (i : Nat), fs.map (·.1) = ns → ns.findIdx? (· == k) = some i → putF k v fs = fs.set i (k, v)
  | [], _, i, e, h => by subst e; simp at h
  | (g, x) :: fs, _, i, e, h => by
    subst e
    rw [List.map_cons, List.findIdx?_cons] at h
    show (if g = k then (g, v) :: fs else (g, x) :: putF k v fs) = _
    by_cases q : (g == k) = true
    · rw [if_pos q] at h
      cases h
      rw [if_pos (eq_of_beq q), eq_of_beq q]
      rfl
    · rw [if_neg q] at h
      rw [if_neg (fun e => q (by rw [e]; exact beq_self_eq_true k))]
      cases i with
      | zero => simp at h
      | succ i =>
        rw [putA i rfl (by
          cases q3 : (fs.map (·.1)).findIdx? (· == k) with
          | none => rw [q3] at h; cases h
          | some m => rw [q3] at h; simpa using h)]
        rfl
/-- all but the addresses of M stands -/
def Keep (M : List Addr) (H H' : Hp) : Prop := ∀ b o, H b = some o → b ∉ M → H' b = some o
theorem Keep.same {M : List Addr} {H H' : Hp} (h : Same H H') : Keep M H H' := fun b o e _ => h b o e
theorem Keep.trans {M : List Addr} {H H1 H2 : Hp} (a : Keep M H H1) (b : Keep M H1 H2) : Keep M H H2 := fun c o e n => b c o (a c o e n) n
theorem Keep.mono {M N : List Addr} {H H1 : Hp} (a : Keep M H H1) (h : ∀ c, c ∈ M → c ∈ N) : Keep N H H1 := fun c o e n => a c o e fun q => n (h c q)
theorem Keep.nil {H H' : Hp} (h : Keep [] H H') : Same H H' := fun b o e => h b o e (by simp)
theorem Keep.upd {M : List Addr} {H H1 : Hp} {a : Addr} {o : HO} (k : Keep M H H1) (h : a ∈ M ∨ H a = none) : Keep M H (upd H1 a o) := fun c q e n => by
  have : c ≠ a := by
    rintro rfl
    rcases h with h | h
    · exact n h
    · rw [h] at e; cases e
  rw [upd_ne this]
  exact k c q e n
theorem Same.upd' {H H1 : Hp} {a : Addr} {o : HO} (k : Same H H1) (h : H a = none) : Same H (upd H1 a o) := fun c q e => by
  have : c ≠ a := by
    rintro rfl
    rw [h] at e
    cases e
  rw [upd_ne this]
  exact k c q e
theorem snew {H H1 : Hp} {a : Addr} {o : HO} (k : Same H H1) (h : H1 a = none) : Same H (upd H1 a o) := Same.upd' k (k.free h)
theorem knew {M : List Addr} {H H1 : Hp} {a : Addr} {o : HO} (k : Keep M H H1) (h : H1 a = none) : Keep M H (upd H1 a o) := fun c q e n => by
  have q1 := k c q e n
  have : c ≠ a := by
    rintro rfl
    rw [h] at q1
    cases q1
  rw [upd_ne this]
  exact q1
/-! ### Condition -/
abbrev sCond : Stmt := inClass (top 18) 0
def condF (p : Nat) (m : Int) : List (Str × V) := [("place", natV p), ("maker", .int m)]
def CondAt (C : Addr) (H : Hp) (a : Addr) (p : Nat) (m : Int) : Prop := ∃ dx, H a = some (.ins C dx (condF p m))
def spCond (C : Addr) : Sp := fun vs H Q _ => ∃ (x dx : Addr) (p : Nat) (m : Int), vs = [.ref x, natV p, .int m] ∧ H x = some (.ins C dx []) ∧ ∀ H' : Hp, CondAt C H' x p m → Keep [x] H H' → Q .non H'
theorem scCond : FnScope ["self", "place", "maker"] ["self", "place", "maker"] (defScope sCond) := ⟨rfl, rfl, rfl, by decide +kernel, rfl, by decide +kernel, by decide +kernel⟩
theorem ok_cond {C f : Addr} {fd : FuncData} (F : Fun K "__init__" "Condition.__init__" sCond f fd) (T : ClsT K mg "Condition" C ["place", "maker"]) : FnOk P w K mg base CX0 1 f fd ["self", "place", "maker"] (spCond C) := by
  refine F.ok scCond (fun vs H Q E h => ?_) (fun cdv A outer s H vs Q E hr h => ?_)
  · obtain ⟨x, dx, p, m, rfl, _⟩ := h
    rfl
  · obtain ⟨x, dx, p, m, rfl, hx, q⟩ := h
    refine ⟨_, pss_cons (ps_fld (pv 0) (pv 1) rfl) (pss_one (ps_fld (pv 0) (pv 2) rfl)), ?_⟩
    refine ⟨_, rfl, _, rfl, x, C, dx, [], rfl, hx, T.cl, T.no _ (by decide +kernel), (by show 0 < 1000; decide), ?_⟩
    refine ⟨_, rfl, _, rfl, x, C, dx, _, rfl, upd_same, T.cl, T.no _ (by decide +kernel), (by show 1 < 1000; decide), ?_⟩
    exact q _ ⟨dx, upd_same.trans (by rw [putN (fs := []) (ns := []) rfl rfl, putN (fs := [] ++ [_]) (ns := ["place"]) rfl (by decide +kernel)]; rfl)⟩ fun b o e hb => by
      rw [upd_ne (by simpa using hb), upd_ne (by simpa using hb)]
      exact e
/-! ### Net, Transition -/
abbrev sNet : Stmt := inClass (top 9) 0
def netF (n : Nat) (t m : Addr) : List (Str × V) := [("places", natV n), ("transitions", .ref t), ("marking", .ref m)]
def spNet (C : Addr) : Sp := fun vs H Q _ => ∃ (x dx : Addr) (n : Nat) (t m : Addr), vs = [.ref x, natV n, .ref t, .ref m] ∧ H x = some (.ins C dx []) ∧ ∀ H' : Hp, H' x = some (.ins C dx (netF n t m)) → Keep [x] H H' → Q .non H'
theorem scNet : FnScope ["self", "places", "transitions", "marking"] ["self", "places", "transitions", "marking"] (defScope sNet) := ⟨rfl, rfl, rfl, by decide +kernel, rfl, by decide +kernel, by decide +kernel⟩
theorem ok_net {C f : Addr} {fd : FuncData} (F : Fun K "__init__" "Net.__init__" sNet f fd) (T : ClsT K mg "Net" C ["places", "transitions", "marking"]) : FnOk P w K mg base CX0 1 f fd ["self", "places", "transitions", "marking"] (spNet C) := by
  refine F.ok scNet (fun vs H Q E h => ?_) (fun cdv A outer s H vs Q E hr h => ?_)
  · obtain ⟨x, dx, n, t, m, rfl, _⟩ := h
    rfl
  · obtain ⟨x, dx, n, t, m, rfl, hx, q⟩ := h
    refine ⟨_, pss_cons (ps_fld (pv 0) (pv 1) rfl) (pss_cons (ps_fld (pv 0) (pv 2) rfl) (pss_one (ps_fld (pv 0) (pv 3) rfl))), ?_⟩
    refine ⟨_, rfl, _, rfl, x, C, dx, [], rfl, hx, T.cl, T.no _ (by decide +kernel), (by show 0 < 1000; decide), ?_⟩
    refine ⟨_, rfl, _, rfl, x, C, dx, _, rfl, upd_same, T.cl, T.no _ (by decide +kernel), (by show 1 < 1000; decide), ?_⟩
    refine ⟨_, rfl, _, rfl, x, C, dx, _, rfl, upd_same, T.cl, T.no _ (by decide +kernel), (by show 2 < 1000; decide), ?_⟩
    refine q _ (upd_same.trans ?_) fun b o e hb => ?_
    · rw [putN (fs := []) (ns := []) rfl rfl, putN (fs := [] ++ [_]) (ns := ["places"]) rfl (by decide +kernel), putN (fs := [] ++ [_] ++ [_]) (ns := ["places", "transitions"]) rfl (by decide +kernel)]
      rfl
    · have hb : b ≠ x := by simpa using hb
      rw [upd_ne hb, upd_ne hb, upd_ne hb]
      exact e
abbrev sTrans : Stmt := inClass (top 8) 0
def trF (t p : Addr) : List (Str × V) := [("takes", .ref t), ("puts", .ref p)]
def spTrans (C : Addr) : Sp := fun vs H Q _ => ∃ (x dx : Addr) (t p : Addr), vs = [.ref x, .ref t, .ref p] ∧ H x = some (.ins C dx []) ∧ ∀ H' : Hp, H' x = some (.ins C dx (trF t p)) → Keep [x] H H' → Q .non H'
theorem scTrans : FnScope ["self", "takes", "puts"] ["self", "takes", "puts"] (defScope sTrans) := ⟨rfl, rfl, rfl, by decide +kernel, rfl, by decide +kernel, by decide +kernel⟩
theorem ok_trans {C f : Addr} {fd : FuncData} (F : Fun K "__init__" "Transition.__init__" sTrans f fd) (T : ClsT K mg "Transition" C ["takes", "puts"]) : FnOk P w K mg base CX0 1 f fd ["self", "takes", "puts"] (spTrans C) := by
  refine F.ok scTrans (fun vs H Q E h => ?_) (fun cdv A outer s H vs Q E hr h => ?_)
  · obtain ⟨x, dx, t, p, rfl, _⟩ := h
    rfl
  · obtain ⟨x, dx, t, p, rfl, hx, q⟩ := h
    refine ⟨_, pss_cons (ps_fld (pv 0) (pv 1) rfl) (pss_one (ps_fld (pv 0) (pv 2) rfl)), ?_⟩
    refine ⟨_, rfl, _, rfl, x, C, dx, [], rfl, hx, T.cl, T.no _ (by decide +kernel), (by show 0 < 1000; decide), ?_⟩
    refine ⟨_, rfl, _, rfl, x, C, dx, _, rfl, upd_same, T.cl, T.no _ (by decide +kernel), (by show 1 < 1000; decide), ?_⟩
    refine q _ (upd_same.trans ?_) fun b o e hb => ?_
    · rw [putN (fs := []) (ns := []) rfl rfl, putN (fs := [] ++ [_]) (ns := ["takes"]) rfl (by decide +kernel)]
      rfl
    · have hb : b ≠ x := by simpa using hb
      rw [upd_ne hb, upd_ne hb]
      exact e
end
end NuP
end
/-! # NuP2 -/
section
set_option Elab.async false
set_option maxRecDepth 100000
set_option maxHeartbeats 4000000
set_option linter.all false
namespace NuP
open PySem PySem.Spec PyProof.Rows L2
/-! ### comprehensions whose parts change nothing -/
section
variable {K : PySem.W.Frag} {a D : Addr} {xs : List V} {tt : TT} {te : TE} {vs : List Nat} {σ : L2.St} {H1 : Hp} {Qd : Hp → Prop} {i : Nat} {p : V → Bool} {f : V → V}
theorem filter_take {α : Type} {p : α → Bool} {l : List α} {i : Nat} {x : α} (h : l[i]? = some x) : (l.take (i + 1)).filter p = (l.take i).filter p ++ if p x = true then [x] else [] := by
  rw [List.take_add_one, h, List.filter_append]
  congr 1
  by_cases q : p x = true <;> simp [q]
theorem lc_fmL (hD : H1 D = none) (hl : SqL K H1 a xs) (hz : xs.length ≤ sizeLine) (hw : ∀ x, wipe ((wipe σ vs).set i (some x)) vs = wipe σ vs)
    (ht : ∀ (j : Nat) x H Q, xs[j]? = some x → Same H1 H → Q (p x) H → tt ((wipe σ vs).set i (some x)) H Q) (he : ∀ (j : Nat) x H Q, xs[j]? = some x → p x = true → Same H1 H → Q (f x) H → te ((wipe σ vs).set i (some x)) H Q)
    (hd : ∀ H, Same H1 H → H D = some (.lst ((xs.filter p).map f)) → Qd H) :
    ∃ W : Nat → Nat → Hp → Prop, (∃ m, W 0 m (upd H1 D (.lst []))) ∧ ∀ j m H, W j m H → ((Itl K a).stop j H ∧ Qd H) ∨ ((Itl K a).go j H ∧ ∃ Nx : Hp → Prop, (∀ H', Nx H' → ∃ m', m' < m ∧ W (j + 1) m' H') ∧
      ∀ x H', (Itl K a).yld j H x H' → gName i x (wipe σ vs) H' fun s2 H2 => wipe s2 vs = wipe σ vs ∧ tt s2 H2 fun b H3 => if b = true then te s2 H3 fun y H4 => ∃ acc, H4 D = some (.lst acc) ∧ acc.length < sizeLine ∧ Nx (upd H4 D (.lst (acc ++ [y]))) else Nx H3) := by
  refine lc_list (xs := xs) (fun j H => Same H1 H ∧ H D = some (.lst (((xs.take j).filter p).map f))) ⟨Same.upd' (Same.refl _) hD, upd_same⟩ (fun j H _ h => h.1.seq hl) (fun j x H hx ⟨s1, g1⟩ => ⟨hw x, ?_⟩) fun H ⟨s1, g1⟩ => hd H s1 (by rw [List.take_length] at g1; exact g1)
  refine ht j x H _ hx s1 ?_
  by_cases q : p x = true
  · rw [q]
    refine iteT (he j x H _ hx q s1 ⟨_, g1, ?_, Same.upd' s1 hD, ?_⟩)
    · have h1 : (((xs.take j).filter p).map f).length ≤ j := by
        rw [List.length_map]
        exact Nat.le_trans (List.length_filter_le ..) (by rw [List.length_take]; omega)
      have h2 := (List.getElem?_eq_some_iff.mp hx).1
      omega
    · rw [upd_same, filter_take hx, if_pos q, List.map_append]
      rfl
  · rw [Bool.eq_false_iff.mpr q]
    refine iteF ⟨s1, ?_⟩
    rw [filter_take hx, if_neg q, List.append_nil]
    exact g1
theorem lc_fmT (hD : H1 D = none) (hl : SqT K H1 a xs) (hz : xs.length ≤ sizeLine) (hT : ∀ H, Same H1 H → SqT K H a xs) (hw : ∀ x, wipe ((wipe σ vs).set i (some x)) vs = wipe σ vs)
    (ht : ∀ (j : Nat) x H Q, xs[j]? = some x → Same H1 H → Q (p x) H → tt ((wipe σ vs).set i (some x)) H Q) (he : ∀ (j : Nat) x H Q, xs[j]? = some x → p x = true → Same H1 H → Q (f x) H → te ((wipe σ vs).set i (some x)) H Q)
    (hd : ∀ H, Same H1 H → H D = some (.lst ((xs.filter p).map f)) → Qd H) :
    ∃ W : Nat → Nat → Hp → Prop, (∃ m, W 0 m (upd H1 D (.lst []))) ∧ ∀ j m H, W j m H → ((Itt K a).stop j H ∧ Qd H) ∨ ((Itt K a).go j H ∧ ∃ Nx : Hp → Prop, (∀ H', Nx H' → ∃ m', m' < m ∧ W (j + 1) m' H') ∧
      ∀ x H', (Itt K a).yld j H x H' → gName i x (wipe σ vs) H' fun s2 H2 => wipe s2 vs = wipe σ vs ∧ tt s2 H2 fun b H3 => if b = true then te s2 H3 fun y H4 => ∃ acc, H4 D = some (.lst acc) ∧ acc.length < sizeLine ∧ Nx (upd H4 D (.lst (acc ++ [y]))) else Nx H3) := by
  refine lc_tup (xs := xs) (fun j H => Same H1 H ∧ H D = some (.lst (((xs.take j).filter p).map f))) ⟨Same.upd' (Same.refl _) hD, upd_same⟩ (fun j H _ h => hT H h.1) (fun j x H hx ⟨s1, g1⟩ => ⟨hw x, ?_⟩) fun H ⟨s1, g1⟩ => hd H s1 (by rw [List.take_length] at g1; exact g1)
  refine ht j x H _ hx s1 ?_
  by_cases q : p x = true
  · rw [q]
    refine iteT (he j x H _ hx q s1 ⟨_, g1, ?_, Same.upd' s1 hD, ?_⟩)
    · have h1 : (((xs.take j).filter p).map f).length ≤ j := by
        rw [List.length_map]
        exact Nat.le_trans (List.length_filter_le ..) (by rw [List.length_take]; omega)
      have h2 := (List.getElem?_eq_some_iff.mp hx).1
      omega
    · rw [upd_same, filter_take hx, if_pos q, List.map_append]
      rfl
  · rw [Bool.eq_false_iff.mpr q]
    refine iteF ⟨s1, ?_⟩
    rw [filter_take hx, if_neg q, List.append_nil]
    exact g1
theorem filter_yes {α : Type} (l : List α) : l.filter (fun _ => true) = l := List.filter_eq_self.mpr fun _ _ => rfl
theorem sameT {H H' : Hp} (e : Same H H') (h : SqT K H a xs) : SqT K H' a xs := by
  rcases h with (h | ⟨o, h⟩) | h
  · exact .inl (.inl (e _ _ h))
  · exact .inl (.inr ⟨o, e _ _ h⟩)
  · exact .inr h
end
theorem inV_nats (n : Nat) (l : List Nat) : inV (natV n) (nats l) = l.contains n := by
  unfold inV nats
  rw [List.any_map, List.contains_eq_any_beq]
  congr 1
  funext m
  show ((m : Int) == (n : Int)) = (n == m)
  rw [Bool.eq_iff_iff]
  simp
  omega
theorem map_in (ts l : List Nat) : (nats ts).map (fun v => V.bl (inV v (nats l))) = (ts.map fun n => l.contains n).map V.bl := by
  rw [List.map_map, show nats ts = ts.map natV from rfl, List.map_map]
  refine List.map_congr_left fun n _ => ?_
  show V.bl (inV (natV n) (nats l)) = V.bl (l.contains n)
  rw [inV_nats]
theorem filter_in (ts l : List Nat) : ((nats l).filter fun v => !inV v (nats ts)) = nats (l.filter fun n => !ts.contains n) := by
  rw [show nats l = l.map natV from rfl, List.filter_map]
  refine congrArg (List.map natV) (List.filter_congr fun n _ => ?_)
  show (!inV (natV n) (nats ts)) = !ts.contains n
  rw [inV_nats]
theorem map_self {α : Type} (l : List α) : l.map (fun v => v) = l := List.map_id' l
theorem perm_nats {ns : List Int} {l : List Nat} (h : ns.Perm (l.map Int.ofNat)) (hs : ns.Pairwise (· ≤ ·)) : ∃ l' : List Nat, ns.map V.int = nats l' ∧ l'.Perm l ∧ l'.Pairwise (· ≤ ·) := by
  have e : (ns.map Int.toNat).map Int.ofNat = ns := by
    rw [List.map_map]
    refine (List.map_congr_left fun z hz => ?_).trans (map_self ns)
    obtain ⟨n, _, rfl⟩ := List.mem_map.mp (h.mem_iff.mp hz)
    rfl
  refine ⟨ns.map Int.toNat, ?_, ?_, ?_⟩
  · rw [nats_ints, e]
  · have := h.map Int.toNat
    rw [List.map_map] at this
    refine this.trans (List.Perm.of_eq ((List.map_congr_left fun n _ => rfl).trans (map_self l)))
  · rw [List.pairwise_map]
    exact hs.imp fun {a b} q => by omega
theorem flat_nats (l : List Nat) : (nats l).all flatV = true := by
  unfold nats
  rw [List.all_map, List.all_eq_true]
  intro x _
  rfl
/-- a transition stands at a -/
structure TrAt (C : Addr) (H : Hp) (a : Addr) (t : Sq63.Transition) : Prop where
  ex : ∃ dx tk pt, H a = some (.ins C dx (trF tk pt)) ∧ H tk = some (.lst (nats t.takes)) ∧ H pt = some (.lst (nats t.puts)) ∧ t.takes.length ≤ 400 ∧ t.puts.length ≤ 400
theorem TrAt.same {C : Addr} {H H' : Hp} {a : Addr} {t : Sq63.Transition} (h : TrAt C H a t) (s : Same H H') : TrAt C H' a t := by
  obtain ⟨dx, tk, pt, h1, h2, h3, h4⟩ := h.ex
  exact ⟨dx, tk, pt, s _ _ h1, s _ _ h2, s _ _ h3, h4⟩
theorem sz400 {n : Nat} (h : n ≤ 1000) : n ≤ sizeLine := Nat.le_of_lt (small1000 h)
section
variable {P : Program} {w : World} {K : PySem.W.Frag} {mg : Str → Option Value} {base : Heap}
/-! ### Transition.may_fire -/
abbrev sMay : Stmt := inClass (top 8) 1
def spMay (C : Addr) (K : PySem.W.Frag) : Sp := fun vs H Q _ => ∃ (x m : Addr) (t : Sq63.Transition) (l : List Nat), vs = [.ref x, .ref m] ∧ TrAt C H x t ∧ SqT K H m (nats l) ∧ ∀ H', Same H H' → Q (.bl (Sq63.may t l)) H'
theorem scMay : FnScope ["self", "marking", "place"] ["self", "marking"] (defScope sMay) := ⟨rfl, rfl, rfl, by decide +kernel, rfl, by decide +kernel, by decide +kernel⟩
theorem ok_may {C f : Addr} {fd : FuncData} (F : Fun K "may_fire" "Transition.may_fire" sMay f fd) (T : ClsT K mg "Transition" C ["takes", "puts"]) (gAll : mg "all" = none) : FnOk P w K mg base CX0 1 f fd ["self", "marking"] (spMay C K) := by
  refine F.ok scMay (fun vs H Q E h => ?_) (fun cdv A outer s H vs Q E hr h => ?_)
  · obtain ⟨x, m, t, l, rfl, _⟩ := h
    rfl
  · obtain ⟨x, m, t, l, rfl, ⟨dx, tk, pt, h1, h2, h3, h4, h5⟩, hm, q⟩ := h
    refine ⟨_, pss_one (ps_ret (pe_callB (cr_all rfl) (by rfl) gAll (by decide +kernel) (pa_cons (pe_lc (own := [("place", 2)]) (g := gName 2) (tt := tYes) (te := tOp (rIn K false) (tVar 2) (tVar 1)) rfl scMay.nd (pi_list (pe_fld (pv 0) rfl)) (blkOk_by (own := [("place", 2)]) (N := ["self", "marking", "place"]) (sc := defScope sMay) (by decide +kernel))
      (fun _ _ _ _ _ => pg_name (i := 2) scMay.nd rfl (Or.inl rfl)) (fun _ _ _ _ _ => pts_nil) (fun _ _ _ _ _ => pe_cmpR (r := rIn K false) op_in_seq (pv 2) (pv 1) (by rfl))) pa_nil))), ?_⟩
    refine ⟨_, rfl, x, C, dx, _, _, rfl, h1, T.cl, T.no _ (by decide +kernel), look (ns := ["takes", "puts"]) 0 rfl (by decide +kernel) rfl, tk, rfl, ⟨_, SqL.of h2⟩, fun D hD => ?_⟩
    refine lc_fmL (xs := nats t.takes) (p := fun _ => true) (f := fun v => .bl (inV v (nats l))) hD (SqL.of h2) (by rw [nats_len]; exact sz400 (by omega)) (fun x => rfl) (fun j x H Q _ _ h => h) (fun j x H Q hx _ s1 h => ?_) fun H' s1 g1 => ?_
    · obtain ⟨n, hn, rfl⟩ := nats_get hx
      exact ⟨_, rfl, _, rfl, m, _, rfl, .inr (sameT s1 hm), rfl, flat_nats l, h⟩
    · rw [filter_yes] at g1
      refine ⟨D, t.takes.map fun n => l.contains n, rfl, SqL.of ?_, ?_⟩
      · rw [g1, map_in]
      · have e : (t.takes.map fun n => l.contains n).all id = Sq63.may t l := by rw [List.all_map]; rfl
        rw [e]
        exact q _ s1
/-! ### Transition.untouched -/
abbrev sUnt : Stmt := inClass (top 8) 2
def stay (t : Sq63.Transition) (l : List Nat) : List Nat := l.filter fun p => !t.takes.contains p
def spUnt (C : Addr) (K : PySem.W.Frag) : Sp := fun vs H Q _ => ∃ (x m : Addr) (t : Sq63.Transition) (l : List Nat), vs = [.ref x, .ref m] ∧ TrAt C H x t ∧ SqT K H m (nats l) ∧ l.length ≤ 400 ∧ ∀ H' p, Same H H' → H p = none → H' p = some (.lst (nats (stay t l))) → Q (.ref p) H'
theorem scUnt : FnScope ["self", "marking", "place"] ["self", "marking"] (defScope sUnt) := ⟨rfl, rfl, rfl, by decide +kernel, rfl, by decide +kernel, by decide +kernel⟩
theorem ok_unt {C f : Addr} {fd : FuncData} (F : Fun K "untouched" "Transition.untouched" sUnt f fd) (T : ClsT K mg "Transition" C ["takes", "puts"]) : FnOk P w K mg base CX0 1 f fd ["self", "marking"] (spUnt C K) := by
  refine F.ok scUnt (fun vs H Q E h => ?_) (fun cdv A outer s H vs Q E hr h => ?_)
  · obtain ⟨x, m, t, l, rfl, _⟩ := h
    rfl
  · obtain ⟨x, m, t, l, rfl, ⟨dx, tk, pt, h1, h2, h3, h4, h5⟩, hm, hl, q⟩ := h
    refine ⟨_, pss_one (ps_ret (pe_lc (own := [("place", 2)]) (g := gName 2) (tt := tTest (tOp (rIn K true) (tVar 2) (tFld K (tVar 0) "takes"))) (te := tVar 2) rfl scUnt.nd (pi_tup (pv 1)) (blkOk_by (own := [("place", 2)]) (N := ["self", "marking", "place"]) (sc := defScope sUnt) (by decide +kernel))
      (fun _ _ _ _ _ => pg_name (i := 2) scUnt.nd rfl (Or.inl rfl)) (fun _ _ _ _ _ => pts_one (pt_cmpR (r := rIn K true) op_notIn_seq (pv 2) (pe_fld (pv 0) rfl) (by rfl))) (fun _ _ _ _ _ => pv 2))), ?_⟩
    refine ⟨_, rfl, m, rfl, ⟨_, hm⟩, fun D hD => ?_⟩
    refine lc_fmT (xs := nats l) (p := fun v => !inV v (nats t.takes)) (f := fun v => v) hD hm (by rw [nats_len]; exact sz400 (by omega)) (fun H s1 => sameT s1 hm) (fun x => rfl) (fun j y H Q hx s1 h => ?_) (fun j x H Q hx _ s1 h => ⟨_, rfl, h⟩) fun H' s1 g1 => ?_
    · obtain ⟨n, hn, rfl⟩ := nats_get hx
      exact ⟨_, rfl, _, rfl, x, C, dx, _, _, rfl, s1 _ _ h1, T.cl, T.no _ (by decide +kernel), look (ns := ["takes", "puts"]) 0 rfl (by decide +kernel) rfl, tk, _, rfl, .inl (SqL.of (s1 _ _ h2)), rfl, flat_nats _, _, rfl, h⟩
    · refine q _ D s1 hD ?_
      rw [g1, map_self, filter_in]
      rfl
/-! ### Transition.makes_two_tokens -/
abbrev sTwo : Stmt := inClass (top 8) 3
def spTwo (C : Addr) (K : PySem.W.Frag) : Sp := fun vs H Q _ => ∃ (x m : Addr) (t : Sq63.Transition) (l : List Nat), vs = [.ref x, .ref m] ∧ TrAt C H x t ∧ SqT K H m (nats l) ∧ l.length ≤ 400 ∧ ∀ H', Same H H' → Q (.bl (!Sq63.safe t l)) H'
theorem scTwo : FnScope ["self", "marking", "staying", "place"] ["self", "marking"] (defScope sTwo) := ⟨rfl, rfl, rfl, by decide +kernel, rfl, by decide +kernel, by decide +kernel⟩
theorem ok_two {C f fU : Addr} {fd fdU : FuncData} (F : Fun K "makes_two_tokens" "Transition.makes_two_tokens" sTwo f fd) (T : ClsT K mg "Transition" C ["takes", "puts"]) (gAny : mg "any" = none)
    (GU : FnOk P w K mg base CX0 1 fU fdU ["self", "marking"] (spUnt C K)) (bU : Binds K fdU ["self", "marking"] []) (mU : Meth K C "untouched" fU) : FnOk P w K mg base CX0 2 f fd ["self", "marking"] (spTwo C K) := by
  refine F.ok scTwo (fun vs H Q E h => ?_) (fun cdv A outer s H vs Q E hr h => ?_)
  · obtain ⟨x, m, t, l, rfl, _⟩ := h
    rfl
  · obtain ⟨x, m, t, l, rfl, hT, hm, hl, q⟩ := h
    refine ⟨_, pss_cons (ps_set (i := 2) scTwo.nd rfl (Or.inr rfl) (pe_meth (pv 0) T.cl mU GU hr bU .nil pass0 (pa_cons (pv 1) pa_nil)))
      (pss_one (ps_ret (pe_callB (cr_any rfl) (by rfl) gAny (by decide +kernel) (pa_cons (pe_lc (own := [("place", 3)]) (g := gName 3) (tt := tYes) (te := tOp (rIn K false) (tVar 3) (tVar 2)) rfl scTwo.nd (pi_list (pe_fld (pv 0) rfl)) (blkOk_by (own := [("place", 3)]) (N := ["self", "marking", "staying", "place"]) (sc := defScope sTwo) (by decide +kernel))
        (fun _ _ _ _ _ => pg_name (i := 3) scTwo.nd rfl (Or.inl rfl)) (fun _ _ _ _ _ => pts_nil) (fun _ _ _ _ _ => pe_cmpR (r := rIn K false) op_in_seq (pv 3) (pv 2) (by rfl))) pa_nil)))), ?_⟩
    obtain ⟨dx, tk, pt, h1, h2, h3, h4, h5⟩ := id hT.ex
    refine ⟨_, rfl, x, dx, _, rfl, h1, nolook (ns := ["takes", "puts"]) rfl (by decide +kernel), _, rfl, x, m, t, l, rfl, hT, hm, hl, fun H1 p s1 np gp => ?_⟩
    refine ⟨_, rfl, x, C, dx, _, _, rfl, s1 _ _ h1, T.cl, T.no _ (by decide +kernel), look (ns := ["takes", "puts"]) 1 rfl (by decide +kernel) rfl, pt, rfl, ⟨_, SqL.of (s1 _ _ h3)⟩, fun D hD => ?_⟩
    refine lc_fmL (xs := nats t.puts) (p := fun _ => true) (f := fun v => .bl (inV v (nats (stay t l)))) hD (SqL.of (s1 _ _ h3)) (by rw [nats_len]; exact sz400 (by omega)) (fun x => rfl) (fun j x H Q _ _ h => h) (fun j x H Q hx _ s2 h => ?_) fun H' s2 g1 => ?_
    · obtain ⟨n, hn, rfl⟩ := nats_get hx
      exact ⟨_, rfl, _, rfl, p, _, rfl, .inl (SqL.of (s2 _ _ gp)), rfl, flat_nats _, h⟩
    · rw [filter_yes] at g1
      refine ⟨D, t.puts.map fun n => (stay t l).contains n, rfl, SqL.of (by rw [g1, map_in]), ?_⟩
      have e : (t.puts.map fun n => (stay t l).contains n).any id = !Sq63.safe t l := by
        rw [List.any_map]
        show (t.puts.any fun n => (stay t l).contains n) = !(!(t.puts.any fun n => (stay t l).contains n))
        rw [Bool.not_not]
      rw [e]
      exact q _ (s1.trans s2)
/-! ### Transition.fire -/
abbrev sFire : Stmt := inClass (top 8) 4
def spFire (C : Addr) (K : PySem.W.Frag) : Sp := fun vs H Q _ => ∃ (x m : Addr) (t : Sq63.Transition) (l : List Nat), vs = [.ref x, .ref m] ∧ TrAt C H x t ∧ SqT K H m (nats l) ∧ l.length ≤ 400 ∧ l.Pairwise (· < ·) ∧ t.puts.Pairwise (· < ·) ∧ Sq63.safe t l = true ∧
  ∀ H' p, Same H H' → H p = none → H' p = some (.tup (nats (Sq63.fired t l))) → Q (.ref p) H'
theorem fired_sorted {t : Sq63.Transition} {l r : List Nat} (hl : l.Pairwise (· < ·)) (hp : t.puts.Pairwise (· < ·)) (hs : Sq63.safe t l = true) (pm : r.Perm (stay t l ++ t.puts)) (sr : r.Pairwise (· ≤ ·)) : r = Sq63.fired t l := by
  have hd : ∀ x, x ∈ stay t l → x ∉ t.puts := fun x h1 h2 => by
    unfold Sq63.safe at hs
    rw [Bool.not_eq_true'] at hs
    have : Sq63.meets t.puts (stay t l) = true := Nu.meets_iff.mpr ⟨x, h2, h1⟩
    rw [show Sq63.meets t.puts (l.filter fun p => !t.takes.contains p) = Sq63.meets t.puts (stay t l) from rfl, this] at hs
    cases hs
  have nd : r.Nodup := by
    rw [pm.nodup_iff, List.nodup_append]
    refine ⟨Nu.rise_nodup (hl.filter _), Nu.rise_nodup hp, fun a ha b hb e => ?_⟩
    subst e
    exact hd a ha hb
  refine Nu.rise_ext ((List.Pairwise.imp₂ (fun a b h1 h2 => by omega) sr nd)) (Nu.union_rise (hl.filter _)) fun x => ?_
  rw [pm.mem_iff, List.mem_append]
  show _ ↔ x ∈ Sq63.union t.puts (stay t l)
  rw [Nu.mem_union]
  exact Or.comm
theorem scFire : FnScope ["self", "marking"] ["self", "marking"] (defScope sFire) := ⟨rfl, rfl, rfl, by decide +kernel, rfl, by decide +kernel, by decide +kernel⟩
theorem ok_fire {C f fU : Addr} {fd fdU : FuncData} (F : Fun K "fire" "Transition.fire" sFire f fd) (T : ClsT K mg "Transition" C ["takes", "puts"]) (gTup : mg "tuple" = none) (gSor : mg "sorted" = none)
    (GU : FnOk P w K mg base CX0 1 fU fdU ["self", "marking"] (spUnt C K)) (bU : Binds K fdU ["self", "marking"] []) (mU : Meth K C "untouched" fU) : FnOk P w K mg base CX0 2 f fd ["self", "marking"] (spFire C K) := by
  refine F.ok scFire (fun vs H Q E h => ?_) (fun cdv A outer s H vs Q E hr h => ?_)
  · obtain ⟨x, m, t, l, rfl, _⟩ := h
    rfl
  · obtain ⟨x, m, t, l, rfl, hT, hm, hl, l1, l2, l3, q⟩ := h
    refine ⟨_, pss_one (ps_ret (pe_callTy call_tuple_of (by rfl) gTup (by decide +kernel) (pa_cons (pe_callB cr_sortedI (by rfl) gSor (by decide +kernel) (pa_cons (pe_op op_cat (pe_meth (pv 0) T.cl mU GU hr bU .nil pass0 (pa_cons (pv 1) pa_nil)) (pe_fld (pv 0) rfl)) pa_nil)) pa_nil))), ?_⟩
    obtain ⟨dx, tk, pt, h1, h2, h3, h4, h5⟩ := id hT.ex
    refine ⟨_, rfl, x, dx, _, rfl, h1, nolook (ns := ["takes", "puts"]) rfl (by decide +kernel), _, rfl, x, m, t, l, rfl, hT, hm, hl, fun H1 p s1 np gp => ?_⟩
    refine ⟨_, rfl, x, C, dx, _, _, rfl, s1 _ _ h1, T.cl, T.no _ (by decide +kernel), look (ns := ["takes", "puts"]) 1 rfl (by decide +kernel) rfl, ?_⟩
    refine ⟨p, pt, _, _, rfl, rfl, gp, s1 _ _ h3, ?_, fun p2 n2 => ?_⟩
    · have : (stay t l).length ≤ l.length := List.length_filter_le ..
      rw [nats_len, nats_len]
      exact sz400 (by omega)
    refine ⟨p2, (stay t l ++ t.puts).map Int.ofNat, rfl, SqL.of (upd_same.trans (by rw [← nats_ints, nats_app])), fun ns p3 pm sr n3 => ?_⟩
    obtain ⟨r, er, pr, sr'⟩ := perm_nats pm sr
    refine ⟨p3, nats r, rfl, .inl ⟨SqL.of (upd_same.trans (by rw [er])), fun p4 n4 => ?_⟩⟩
    refine q _ p4 (snew (snew (snew s1 n2) n3) n4) ((snew (snew s1 n2) n3).free n4) ?_
    rw [upd_same, fired_sorted l1 l2 l3 pr sr']
end
end NuP
end
/-! # NuP3 -/
section
set_option Elab.async false
set_option maxRecDepth 100000
set_option maxHeartbeats 4000000
set_option linter.all false
namespace NuP
open PySem PySem.Spec PyProof.Rows L2
/-- two lists item by item -/
structure AllAt {α : Type} (F : Addr → α → Prop) (as : List Addr) (xs : List α) : Prop where
  len : as.length = xs.length
  at_ : ∀ (i : Nat) a x, as[i]? = some a → xs[i]? = some x → F a x
theorem AllAt.nil {α : Type} {F : Addr → α → Prop} : AllAt F [] [] := ⟨rfl, fun i a x h => by simp at h⟩
theorem AllAt.snoc {α : Type} {F : Addr → α → Prop} {as : List Addr} {xs : List α} {a : Addr} {x : α} (h : AllAt F as xs) (hx : F a x) : AllAt F (as ++ [a]) (xs ++ [x]) := by
  refine ⟨by simp [h.len], fun i b y hb hy => ?_⟩
  by_cases q : i < as.length
  · rw [List.getElem?_append_left q] at hb
    rw [List.getElem?_append_left (by rw [← h.len]; exact q)] at hy
    exact h.at_ i b y hb hy
  · have hi : i = as.length := by
      have := (List.getElem?_eq_some_iff.mp hb).1
      simp at this
      omega
    subst hi
    rw [List.getElem?_append_right (Nat.le_refl _)] at hb
    rw [h.len, List.getElem?_append_right (Nat.le_refl _)] at hy
    simp at hb hy
    subst hb hy
    exact hx
theorem AllAt.mono {α : Type} {F G : Addr → α → Prop} {as : List Addr} {xs : List α} (h : AllAt F as xs) (k : ∀ a x, a ∈ as → F a x → G a x) : AllAt G as xs :=
  ⟨h.len, fun i a x ha hx => k a x (List.mem_of_getElem? ha) (h.at_ i a x ha hx)⟩
theorem AllAt.get {α : Type} {F : Addr → α → Prop} {as : List Addr} {xs : List α} {i : Nat} {x : α} (h : AllAt F as xs) (hx : xs[i]? = some x) : ∃ a, as[i]? = some a ∧ F a x := by
  have hi : i < as.length := by
    rw [h.len]
    exact (List.getElem?_eq_some_iff.mp hx).1
  exact ⟨_, List.getElem?_eq_getElem hi, h.at_ i _ x (List.getElem?_eq_getElem hi) hx⟩
theorem AllAt.get' {α : Type} {F : Addr → α → Prop} {as : List Addr} {xs : List α} {i : Nat} {a : Addr} (h : AllAt F as xs) (ha : as[i]? = some a) : ∃ x, xs[i]? = some x ∧ F a x := by
  have hi : i < xs.length := by
    rw [← h.len]
    exact (List.getElem?_eq_some_iff.mp ha).1
  exact ⟨_, List.getElem?_eq_getElem hi, h.at_ i a _ ha (List.getElem?_eq_getElem hi)⟩
theorem refs_get {as : List Addr} {i : Nat} {y : V} (h : (as.map V.ref)[i]? = some y) : ∃ a, as[i]? = some a ∧ y = V.ref a := by
  rw [List.getElem?_map] at h
  cases e : as[i]? with
  | none => rw [e] at h; cases h
  | some a => rw [e] at h; exact ⟨a, rfl, (Option.some.inj h).symm⟩
abbrev ListAt (H : Hp) (a : Addr) (l : List Nat) : Prop := H a = some (.lst (nats l))
theorem cut_nats (l : List Nat) (a b : Nat) (h1 : a ≤ b) (h2 : b ≤ l.length) : cutV (nats l) (some (a : Int)) (some (b : Int)) = nats ((l.drop a).take (b - a)) := by
  unfold cutV
  rw [HT.sIx_nat, HT.sIx_nat, nats_len, Nat.min_eq_left (show a ≤ l.length by omega), Nat.min_eq_left h2, nats, nats, List.map_take, List.map_drop]
theorem nats_getD {l : List Nat} {i : Nat} (h : i < l.length) : atI (nats l) (i : Int) = some (natV l[i]) := atI_nat (by rw [nats_at, List.getElem?_eq_getElem h]; rfl)
theorem size_big {n : Nat} (h : n ≤ 20000) : n ≤ sizeLine := Nat.le_trans h (by decide)
section
variable {P : Program} {w : World} {K : PySem.W.Frag} {mg : Str → Option Value} {base : Heap}
/-! ### is_rising_below -/
abbrev sRis : Stmt := top 3
def spRis (K : PySem.W.Frag) : Sp := fun vs H Q _ => ∃ (a : Addr) (l : List Nat) (n : Nat), vs = [.ref a, natV n] ∧ SqL K H a (nats l) ∧ l.length ≤ 20000 ∧ Q (.bl (Sq63.placesOk n l)) H
theorem scRis : FnScope ["numbers", "bound", "k"] ["numbers", "bound"] (defScope sRis) := ⟨rfl, rfl, rfl, by decide +kernel, rfl, by decide +kernel, by decide +kernel⟩
/-- the first k rise -/
def Up (l : List Nat) (k : Nat) : Prop := ∀ j x y, j + 1 < k → l[j]? = some x → l[j + 1]? = some y → x < y
theorem up_all {l : List Nat} (h : Up l l.length) : l.Pairwise (· < ·) := by
  induction l with
  | nil => exact .nil
  | cons a l ih =>
    have h2 : Up l l.length := fun j x y hj hx hy => h (j + 1) x y (by simp; omega) (by simpa using hx) (by simpa using hy)
    have ih := ih h2
    cases l with
    | nil => simp
    | cons b l =>
      have hab : a < b := h 0 a b (by simp) rfl rfl
      refine List.pairwise_cons.mpr ⟨fun c hc => ?_, ih⟩
      rcases List.mem_cons.mp hc with rfl | hc
      · exact hab
      · exact Nat.lt_trans hab ((List.pairwise_cons.mp ih).1 c hc)
theorem up_not {l : List Nat} {j : Nat} {x y : Nat} (hx : l[j]? = some x) (hy : l[j + 1]? = some y) (h : y ≤ x) (n : Nat) : Sq63.placesOk n l = false := by
  cases q : Sq63.placesOk n l with
  | false => rfl
  | true =>
    have := (Nu.placesOk_iff.mp q).1
    rw [List.pairwise_iff_getElem] at this
    obtain ⟨h1, e1⟩ := List.getElem?_eq_some_iff.mp hx
    obtain ⟨h2, e2⟩ := List.getElem?_eq_some_iff.mp hy
    have := this j (j + 1) h1 h2 (by omega)
    omega
theorem ok_ris {f : Addr} {fd : FuncData} (F : Fun K "is_rising_below" "is_rising_below" sRis f fd) (gLen : mg "len" = none) (gRan : mg "range" = none) : FnOk P w K mg base CX0 1 f fd ["numbers", "bound"] (spRis K) := by
  refine F.ok scRis (fun vs H Q E h => ?_) (fun cdv A outer s H vs Q E hr h => ?_)
  · obtain ⟨a, l, n, rfl, _⟩ := h
    rfl
  · obtain ⟨a, l, n, rfl, ha, hz, q⟩ := h
    refine ⟨_, pss_cons (ps_for PassesOwn.never rfl (pi_range2 (by rfl) gRan (pa_cons pe_int (pa_cons (pe_callB call_len_seq (by rfl) gLen PySem.boot_len (pa_cons (pv 0) pa_nil)) pa_nil))) (pg_name (i := 2) scRis.nd rfl (Or.inl rfl))
        (pss_one (ps_if (pt_cmpR op_ge (pe_ix ix_list (pv 0) (pe_op op_sub (pv 2) pe_int) (fun _ _ => rfl)) (pe_ix ix_list (pv 0) (pv 2) (fun _ _ => rfl)) (nomark _)) (pss_one (ps_ret pe_bl)) pss_nil)))
      (pss_one (ps_ret (pe_or (pe_cmpR op_eq (pe_callB call_len_seq (by rfl) gLen PySem.boot_len (pa_cons (pv 0) pa_nil)) pe_int (nomark _)) (pe_one (pe_cmpR op_lt (pe_ix ix_list (pv 0) (pe_un un_neg pe_int) (fun _ _ => rfl)) (pv 1) (nomark _)))))), ?_⟩
    refine ⟨_, rfl, a, _, rfl, .inl ha, 1, (l.length : Int), ?_, ⟨by decide, by decide, by omega, by omega⟩, for_range (lo := 1) (n := ((l.length : Int) - 1).toNat) (fun i σ H' => H' = H ∧ (∃ v, σ = [some (.ref a), some (natV n), v]) ∧ Up l (i + 1)) ⟨rfl, ⟨none, rfl⟩, fun j x y hj => absurd hj (by omega)⟩ ?_ ?_⟩
    · rw [nats_len]
    · rintro i σ H' hi ⟨rfl, ⟨v, rfl⟩, up⟩
      have h1 : i + 1 < l.length := by omega
      have e1 : (1 : Int) + (i : Int) - 1 = ((i : Nat) : Int) := by omega
      have e2 : (1 : Int) + (i : Int) = ((i + 1 : Nat) : Int) := by omega
      refine ⟨_, rfl, _, rfl, _, _, rfl, rfl, a, _, _, _, rfl, rfl, ha, e1 ▸ nats_getD (by omega), _, rfl, _, rfl, a, _, _, _, rfl, rfl, ha, e2 ▸ nats_getD h1, _, _, rfl, rfl, _, rfl, ?_⟩
      refine ite2 (fun c => ?_) (fun c => ?_)
      · have c := of_decide_eq_true c
        show Q (.bl false) H'
        rw [← up_not (List.getElem?_eq_getElem (show i < l.length by omega)) (List.getElem?_eq_getElem h1) (by omega) n]
        exact q
      · refine ⟨rfl, ⟨_, rfl⟩, fun j x y hj hx hy => ?_⟩
        by_cases hji : j + 1 < i + 1
        · exact up j x y hji hx hy
        · have : j = i := by omega
          subst this
          rw [List.getElem?_eq_getElem (show j < l.length by omega)] at hx
          rw [List.getElem?_eq_getElem h1] at hy
          cases hx
          cases hy
          have c := of_decide_eq_false (Bool.eq_false_iff.mpr c)
          omega
    · rintro σ H' ⟨rfl, ⟨v, rfl⟩, up⟩
      refine ⟨_, rfl, a, _, rfl, .inl ha, rfl, _, rfl, ?_⟩
      rw [nats_len]
      have up : l.Pairwise (· < ·) := up_all (fun j x y hj => up j x y (by omega))
      refine ite2 (fun c => ?_) (fun c => ?_)
      · have c : l = [] := List.eq_nil_of_length_eq_zero (by have := V.int.inj (of_decide_eq_true c); omega)
        subst c
        exact q
      · have c : l ≠ [] := fun e => c (by subst e; rfl)
        obtain ⟨l', z, rfl⟩ : ∃ l' z, l = l' ++ [z] := by
          rcases Nu.snoc_cases l with h | h
          · exact absurd h c
          · exact h
        refine ⟨_, rfl, _, rfl, a, _, _, _, rfl, rfl, ha, (by rw [nats_app]; exact atI_last _ _), _, rfl, _, _, rfl, rfl, ?_⟩
        have e : decide ((z : Int) < (n : Int)) = Sq63.placesOk n (l' ++ [z]) := by
          rw [Bool.eq_iff_iff, decide_eq_true_iff, Nu.placesOk_iff]
          constructor
          · intro h
            refine ⟨up, fun p hp => ?_⟩
            rcases List.mem_append.mp hp with hp | hp
            · have := (List.pairwise_append.mp up).2.2 p hp z (by simp)
              omega
            · have : p = z := by simpa using hp
              omega
          · rintro ⟨_, h⟩
            have := h z (by simp)
            omega
        show Q (.bl (decide ((z : Int) < (n : Int)))) H'
        rw [e]
        exact q
end
end NuP
end
/-! # NuP4 -/
section
set_option Elab.async false
set_option maxRecDepth 100000
set_option maxHeartbeats 4000000
set_option linter.all false
namespace NuP
open PySem PySem.Spec PyProof.Rows L2
/-! ### rows, each behind its count -/
def rowsW (l : List Nat) : Option (List (List Nat)) := match l with
  | [] => some []
  | k :: r => if r.length < k then none else (rowsW (r.drop k)).map fun R => r.take k :: R
termination_by l.length
decreasing_by simp only [List.length_drop, List.length_cons]; omega
theorem rowsW_nil : rowsW [] = some [] := by rw [rowsW]
theorem rowsW_cons (k : Nat) (r : List Nat) : rowsW (k :: r) = if r.length < k then none else (rowsW (r.drop k)).map fun R => r.take k :: R := by rw [rowsW]
section
variable {P : Program} {w : World} {K : PySem.W.Frag} {mg : Str → Option Value} {base : Heap}
abbrev sSpl : Stmt := top 2
def spSpl (K : PySem.W.Frag) : Sp := fun vs H Q _ => ∃ (a : Addr) (l : List Nat), vs = [.ref a] ∧ SqL K H a (nats l) ∧ l.length ≤ 20000 ∧ (rowsW l = none → ∀ H', Same H H' → Q .non H') ∧
  (∀ R, rowsW l = some R → ∀ (H' : Hp) (p : Addr) (as : List Addr), Same H H' → H p = none → H' p = some (.lst (as.map V.ref)) → AllAt (ListAt H') as R → Q (.ref p) H')
def IS (a p : Addr) (l : List Nat) (H : Hp) (m : Nat) (σ : L2.St) (H' : Hp) : Prop := ∃ (st : Nat) (R : List (List Nat)) (as : List Addr) (v : Option V), m = l.length - st ∧ st ≤ l.length ∧ σ = [some (.ref a), some (.ref p), some (natV st), v] ∧ Same H H' ∧ H' p = some (.lst (as.map V.ref)) ∧ AllAt (ListAt H') as R ∧ p ∉ as ∧
  R.length ≤ st ∧ rowsW l = (rowsW (l.drop st)).map fun T => R ++ T
theorem scSpl : FnScope ["numbers", "rows", "start", "end"] ["numbers"] (defScope sSpl) := ⟨rfl, rfl, rfl, by decide +kernel, rfl, by decide +kernel, by decide +kernel⟩
theorem ok_spl {f : Addr} {fd : FuncData} (F : Fun K "split_rows" "split_rows" sSpl f fd) (gLen : mg "len" = none) : FnOk P w K mg base CX0 1 f fd ["numbers"] (spSpl K) := by
  refine F.ok scSpl (fun vs H Q E h => ?_) (fun cdv A outer s H vs Q E hr h => ?_)
  · obtain ⟨a, l, rfl, _⟩ := h
    rfl
  · obtain ⟨a, l, rfl, ha, hz, qN, qS⟩ := h
    refine ⟨_, pss_cons (ps_set (i := 1) scSpl.nd rfl (Or.inl rfl) (pe_lst pa_nil)) (pss_cons (ps_set (i := 2) scSpl.nd rfl (Or.inl rfl) pe_int)
      (pss_cons (ps_while PassesOwn.never (pt_cmpR op_lt (pv 2) (pe_callB call_len_seq (by rfl) gLen PySem.boot_len (pa_cons (pv 0) pa_nil)) (nomark _))
        (pss_cons (ps_set (i := 3) scSpl.nd rfl (Or.inl rfl) (pe_op op_add (pe_op op_add (pv 2) pe_int) (pe_ix ix_list (pv 0) (pv 2) (fun _ _ => rfl))))
        (pss_cons (ps_if (pt_cmpR op_gt (pv 3) (pe_callB call_len_seq (by rfl) gLen PySem.boot_len (pa_cons (pv 0) pa_nil)) (nomark _)) (pss_one (ps_ret pe_non)) pss_nil)
        (pss_cons (ps_expr (pe_bm PySem.F.plainAttrs_list PySem.F.slot_list_append PySem.F.type_list_append mt_append (pv 1) (pa_cons (pe_slice sl_list (pv 0) (po_some (pe_op op_add (pv 2) pe_int)) (po_some (pv 3))) pa_nil)))
        (pss_one (ps_set (i := 2) scSpl.nd rfl (Or.inl rfl) (pv 3)))))))
      (pss_one (ps_ret (pv 1))))), ?_⟩
    refine ⟨by show 0 ≤ sizeLine; decide, fun p np => ?_⟩
    refine ⟨IS a p l H, ⟨_, 0, [], [], none, rfl, Nat.zero_le _, rfl, snew (Same.refl _) np, upd_same, AllAt.nil, by simp, Nat.le_refl _, ?_⟩, ?_⟩
    · rw [List.drop_zero]
      cases rowsW l <;> rfl
    · rintro m σ H' ⟨st, R, as, v, rfl, hst, rfl, s1, gp, hA, hpa, hR, hW⟩
      refine ⟨_, rfl, _, rfl, a, _, rfl, .inl (s1.seq ha), _, _, rfl, rfl, _, rfl, ?_⟩
      rw [nats_len]
      refine ite2 (fun c => ⟨fun σ' H2 => ∃ m', m' < l.length - st ∧ IS a p l H m' σ' H2, fun _ _ h => h, ?_⟩) (fun c => ?_)
      · have c : st < l.length := by have := of_decide_eq_true c; omega
        refine ⟨_, rfl, _, _, rfl, rfl, _, rfl, _, rfl, a, _, _, _, rfl, rfl, s1.seq ha, nats_getD c, _, _, rfl, rfl, ?_⟩
        have e1 : (st : Int) + 1 + (l[st] : Int) = ((st + 1 + l[st] : Nat) : Int) := by omega
        refine ⟨_, rfl, _, rfl, a, _, rfl, .inl (s1.seq ha), _, _, rfl, rfl, _, rfl, ?_⟩
        rw [nats_len]
        have eD : l.drop st = l[st] :: l.drop (st + 1) := (List.getElem_cons_drop c).symm
        refine ite2 (fun d => ?_) (fun d => ?_)
        · have d : l.length < st + 1 + l[st] := by have := of_decide_eq_true d; omega
          refine qN ?_ _ s1
          rw [hW, eD, rowsW_cons, if_pos (by rw [List.length_drop]; omega)]
          rfl
        · have d : st + 1 + l[st] ≤ l.length := by have := of_decide_eq_false (Bool.eq_false_iff.mpr d); omega
          refine ⟨_, rfl, .inl ⟨rfl, _, SqL.of gp⟩, _, rfl, _, rfl, _, _, rfl, rfl, _, rfl, _, rfl, _, rfl, a, _, rfl, s1.seq ha, fun r nr => ?_⟩
          refine ⟨p, _, _, rfl, rfl, (upd_ne (ne_of_none gp nr)).trans gp, ?_, ?_⟩
          · rw [List.length_map, hA.len]
            exact Nat.lt_of_le_of_lt hR (Nat.lt_of_lt_of_le c (size_big hz))
          · have rp : r ≠ p := fun e => by
              rw [e, gp] at nr
              cases nr
            have ec : cutV (nats l) (some ((st : Int) + 1)) (some ((st : Int) + 1 + (l[st] : Int))) = nats ((l.drop (st + 1)).take l[st]) := by
              rw [e1, show (st : Int) + 1 = ((st + 1 : Nat) : Int) by omega, cut_nats l _ _ (by omega) d, Nat.add_sub_cancel_left]
            refine ⟨_, rfl, _, ?_, st + 1 + l[st], R ++ [(l.drop (st + 1)).take l[st]], as ++ [r], some (natV (st + 1 + l[st])), rfl, d, ?_, Same.upd' (snew s1 nr) np, ?_, ?_, ?_, ?_, ?_⟩
            · omega
            · show [some (V.ref a), some (V.ref p), some (V.int ((st : Int) + 1 + (l[st] : Int))), some (V.int ((st : Int) + 1 + (l[st] : Int)))] = _
              rw [e1]
            · rw [upd_same, List.map_append]
              rfl
            · refine AllAt.snoc (hA.mono fun b x hb h => ?_) ?_
              · have h : H' b = some (.lst (nats x)) := h
                show upd (upd H' r _) p _ b = _
                rw [upd_ne (fun e => hpa (by rw [← e]; exact hb)), upd_ne (ne_of_none h nr), h]
              · show upd (upd H' r _) p _ r = _
                rw [upd_ne rp, upd_same, ec]
            · simp only [List.mem_append, List.mem_singleton, not_or]
              exact ⟨hpa, Ne.symm rp⟩
            · rw [List.length_append, List.length_singleton]
              omega
            · rw [hW, eD, rowsW_cons, if_neg (by rw [List.length_drop]; omega), List.drop_drop, Option.map_map]
              congr 1
              funext T
              show R ++ (_ :: T) = R ++ [_] ++ T
              rw [List.append_assoc]
              rfl
      · have c : ¬ st < l.length := by have := of_decide_eq_false (Bool.eq_false_iff.mpr c); omega
        obtain rfl : st = l.length := by omega
        rw [List.drop_length, rowsW_nil] at hW
        refine ⟨_, rfl, qS R ?_ _ p as s1 np gp hA⟩
        rw [hW]
        exact congrArg some (List.append_nil R)
end
end NuP
end
/-! # NuP5 -/
section
set_option Elab.async false
set_option maxRecDepth 100000
set_option maxHeartbeats 4000000
set_option linter.all false
namespace NuP
open PySem PySem.Spec PyProof.Rows L2
section
variable {P : Program} {w : World} {K : PySem.W.Frag} {mg : Str → Option Value} {base : Heap}
/-! ### RowReader -/
def rdF (a : Addr) (n : Nat) : List (Str × V) := [("numbers", .ref a), ("position", natV n)]
def RdAt (C : Addr) (H : Hp) (x a : Addr) (n : Nat) : Prop := ∃ dx, H x = some (.ins C dx (rdF a n))
abbrev sRdI : Stmt := inClass (top 1) 0
abbrev sRdM : Stmt := inClass (top 1) 1
abbrev sRdN : Stmt := inClass (top 1) 2
abbrev sRdR : Stmt := inClass (top 1) 3
abbrev rdN : List Str := ["numbers", "position"]
def spRdI (C : Addr) : Sp := fun vs H Q _ => ∃ (x dx a : Addr), vs = [.ref x, .ref a] ∧ H x = some (.ins C dx []) ∧ ∀ H' : Hp, RdAt C H' x a 0 → Keep [x] H H' → Q .non H'
theorem scRdI : FnScope ["self", "numbers"] ["self", "numbers"] (defScope sRdI) := ⟨rfl, rfl, rfl, by decide +kernel, rfl, by decide +kernel, by decide +kernel⟩
theorem ok_rdI {C f : Addr} {fd : FuncData} (F : Fun K "__init__" "RowReader.__init__" sRdI f fd) (T : ClsT K mg "RowReader" C rdN) : FnOk P w K mg base CX0 1 f fd ["self", "numbers"] (spRdI C) := by
  refine F.ok scRdI (fun vs H Q E h => ?_) (fun cdv A outer s H vs Q E hr h => ?_)
  · obtain ⟨x, dx, a, rfl, _⟩ := h
    rfl
  · obtain ⟨x, dx, a, rfl, hx, q⟩ := h
    refine ⟨_, pss_cons (ps_fld (pv 0) (pv 1) rfl) (pss_one (ps_fld (pv 0) pe_int rfl)), ?_⟩
    refine ⟨_, rfl, _, rfl, x, C, dx, [], rfl, hx, T.cl, T.no _ (by decide +kernel), (by show 0 < 1000; decide), ?_⟩
    refine ⟨_, rfl, x, C, dx, _, rfl, upd_same, T.cl, T.no _ (by decide +kernel), (by show 1 < 1000; decide), ?_⟩
    refine q _ ⟨dx, upd_same.trans ?_⟩ fun b o e hb => ?_
    · rw [putN (fs := []) (ns := []) rfl rfl, putN (fs := [] ++ [_]) (ns := ["numbers"]) rfl (by decide +kernel)]
      rfl
    · have hb : b ≠ x := by simpa using hb
      rw [upd_ne hb, upd_ne hb]
      exact e
def spRdM (C : Addr) (K : PySem.W.Frag) : Sp := fun vs H Q _ => ∃ (x a : Addr) (n : Nat) (l : List Nat), vs = [.ref x] ∧ RdAt C H x a n ∧ SqL K H a (nats l) ∧ Q (.bl (decide (n < l.length))) H
theorem scRdM : FnScope ["self"] ["self"] (defScope sRdM) := ⟨rfl, rfl, rfl, by decide +kernel, rfl, by decide +kernel, by decide +kernel⟩
theorem ok_rdM {C f : Addr} {fd : FuncData} (F : Fun K "has_more" "RowReader.has_more" sRdM f fd) (T : ClsT K mg "RowReader" C rdN) (gLen : mg "len" = none) : FnOk P w K mg base CX0 1 f fd ["self"] (spRdM C K) := by
  refine F.ok scRdM (fun vs H Q E h => ?_) (fun cdv A outer s H vs Q E hr h => ?_)
  · obtain ⟨x, a, n, l, rfl, _⟩ := h
    rfl
  · obtain ⟨x, a, n, l, rfl, ⟨dx, hx⟩, ha, q⟩ := h
    refine ⟨_, pss_one (ps_ret (pe_cmpR op_lt (pe_fld (pv 0) rfl) (pe_callB call_len_seq (by rfl) gLen PySem.boot_len (pa_cons (pe_fld (pv 0) rfl) pa_nil)) (nomark _))), ?_⟩
    refine ⟨_, rfl, x, C, dx, _, _, rfl, hx, T.cl, T.no _ (by decide +kernel), look (ns := rdN) 1 rfl (by decide +kernel) rfl, _, rfl, x, C, dx, _, _, rfl, hx, T.cl, T.no _ (by decide +kernel), look (ns := rdN) 0 rfl (by decide +kernel) rfl, a, _, rfl, .inl ha, _, _, rfl, rfl, ?_⟩
    have e : decide ((n : Int) < ((nats l).length : Int)) = decide (n < l.length) := by
      rw [nats_len, decide_eq_decide]
      omega
    show Q (.bl (decide ((n : Int) < ((nats l).length : Int)))) H
    rw [e]
    exact q
def spRdN (C : Addr) (K : PySem.W.Frag) : Sp := fun vs H Q _ => ∃ (x a : Addr) (n z : Nat) (l : List Nat), vs = [.ref x] ∧ RdAt C H x a n ∧ SqL K H a (nats l) ∧ l[n]? = some z ∧ ∀ H', RdAt C H' x a (n + 1) → Keep [x] H H' → Q (natV z) H'
theorem scRdN : FnScope ["self", "number"] ["self"] (defScope sRdN) := ⟨rfl, rfl, rfl, by decide +kernel, rfl, by decide +kernel, by decide +kernel⟩
theorem ok_rdN {C f : Addr} {fd : FuncData} (F : Fun K "read_number" "RowReader.read_number" sRdN f fd) (T : ClsT K mg "RowReader" C rdN) : FnOk P w K mg base CX0 1 f fd ["self"] (spRdN C K) := by
  refine F.ok scRdN (fun vs H Q E h => ?_) (fun cdv A outer s H vs Q E hr h => ?_)
  · obtain ⟨x, a, n, z, l, rfl, _⟩ := h
    rfl
  · obtain ⟨x, a, n, z, l, rfl, ⟨dx, hx⟩, ha, hz, q⟩ := h
    refine ⟨_, pss_cons (ps_set (i := 1) scRdN.nd rfl (Or.inl rfl) (pe_ix ix_list (pe_fld (pv 0) rfl) (pe_fld (pv 0) rfl) (fun _ _ => rfl))) (pss_cons (ps_fldaug (pv 0) pe_int in_add) (pss_one (ps_ret (pv 1)))), ?_⟩
    refine ⟨_, rfl, x, C, dx, _, _, rfl, hx, T.cl, T.no _ (by decide +kernel), look (ns := rdN) 0 rfl (by decide +kernel) rfl, _, rfl, x, C, dx, _, _, rfl, hx, T.cl, T.no _ (by decide +kernel), look (ns := rdN) 1 rfl (by decide +kernel) rfl, a, _, _, _, rfl, rfl, ha, atI_nat (v := natV z) (by rw [nats_at, hz]; rfl), ?_⟩
    refine ⟨_, rfl, x, C, dx, _, _, rfl, hx, T.cl, T.no _ (by decide +kernel), look (ns := rdN) 1 rfl (by decide +kernel) rfl, _, _, rfl, rfl, dx, _, hx, (by show 2 < 1000; decide), ?_⟩
    refine ⟨_, rfl, q _ ⟨dx, upd_same.trans ?_⟩ fun b o e hb => ?_⟩
    · rw [putA (ns := rdN) 1 rfl (by decide +kernel)]
      rfl
    · have hb : b ≠ x := by simpa using hb
      rw [upd_ne hb]
      exact e
def spRdR (C : Addr) (K : PySem.W.Frag) : Sp := fun vs H Q _ => ∃ (x a : Addr) (n z : Nat) (l : List Nat), vs = [.ref x] ∧ RdAt C H x a n ∧ SqL K H a (nats l) ∧ l[n]? = some z ∧ n + 1 + z ≤ l.length ∧
  ∀ H' p, RdAt C H' x a (n + 1 + z) → H p = none → ListAt H' p ((l.drop (n + 1)).take z) → Keep [x] H H' → Q (.ref p) H'
theorem scRdR : FnScope ["self", "length", "start"] ["self"] (defScope sRdR) := ⟨rfl, rfl, rfl, by decide +kernel, rfl, by decide +kernel, by decide +kernel⟩
theorem Keep.free {M : List Addr} {H H' : Hp} {p : Addr} (k : Keep M H H') (n : p ∉ M) (h : H' p = none) : H p = none := by
  cases q : H p with
  | none => rfl
  | some o =>
    rw [k p o q n] at h
    cases h
theorem keepSq {M : List Addr} {H H' : Hp} {a : Addr} {xs : List V} (k : Keep M H H') (h : SqL K H a xs) (n : a ∉ M) : SqL K H' a xs := by
  rcases h with (h | ⟨o, h⟩) | h
  · exact .inl (.inl (k _ _ h n))
  · exact .inl (.inr ⟨o, k _ _ h n⟩)
  · exact .inr h
/-- a list stays where only objects change -/
theorem keepSqI {M : List Addr} {H H' : Hp} {a : Addr} {xs : List V} (k : Keep M H H') (h : SqL K H a xs) (hM : ∀ b, b ∈ M → ∃ C dx fs, H b = some (.ins C dx fs)) : SqL K H' a xs := by
  rcases h with (h | ⟨o, h⟩) | h
  · exact .inl (.inl (k _ _ h fun q => by obtain ⟨C, dx, fs, e⟩ := hM a q; rw [e] at h; cases h))
  · exact .inl (.inr ⟨o, k _ _ h fun q => by obtain ⟨C, dx, fs, e⟩ := hM a q; rw [e] at h; cases h⟩)
  · exact .inr h
theorem keepSqT {M : List Addr} {H H' : Hp} {a : Addr} {xs : List V} (k : Keep M H H') (h : SqT K H a xs) (n : a ∉ M) : SqT K H' a xs := by
  rcases h with (h | ⟨o, h⟩) | h
  · exact .inl (.inl (k _ _ h n))
  · exact .inl (.inr ⟨o, k _ _ h n⟩)
  · exact .inr h
theorem ok_rdR {C f fN : Addr} {fd fdN : FuncData} (F : Fun K "read_row" "RowReader.read_row" sRdR f fd) (T : ClsT K mg "RowReader" C rdN)
    (GN : FnOk P w K mg base CX0 1 fN fdN ["self"] (spRdN C K)) (bN : Binds K fdN ["self"] []) (mN : Meth K C "read_number" fN) : FnOk P w K mg base CX0 2 f fd ["self"] (spRdR C K) := by
  refine F.ok scRdR (fun vs H Q E h => ?_) (fun cdv A outer s H vs Q E hr h => ?_)
  · obtain ⟨x, a, n, z, l, rfl, _⟩ := h
    rfl
  · obtain ⟨x, a, n, z, l, rfl, hX, ha, hz, hle, q⟩ := h
    refine ⟨_, pss_cons (ps_set (i := 1) scRdR.nd rfl (Or.inl rfl) (pe_meth0 (pv 0) T.cl mN GN hr bN .nil pass0)) (pss_cons (ps_set (i := 2) scRdR.nd rfl (Or.inl rfl) (pe_fld (pv 0) rfl))
      (pss_cons (ps_fld (pv 0) (pe_op op_add (pv 2) (pv 1)) rfl) (pss_one (ps_ret (pe_slice sl_list (pe_fld (pv 0) rfl) (po_some (pv 2)) (po_some (pe_fld (pv 0) rfl))))))), ?_⟩
    obtain ⟨dx, hx⟩ := id hX
    refine ⟨_, rfl, x, dx, _, rfl, hx, nolook (ns := rdN) rfl (by decide +kernel), x, a, n, z, l, rfl, hX, ha, hz, ?_⟩
    rintro H1 ⟨dx1, hx1⟩ k1
    have ha1 := keepSqI k1 ha (fun b hb => by rw [List.mem_singleton.mp hb]; exact ⟨_, _, _, hx⟩)
    refine ⟨_, rfl, x, C, dx1, _, _, rfl, hx1, T.cl, T.no _ (by decide +kernel), look (ns := rdN) 1 rfl (by decide +kernel) rfl, ?_⟩
    refine ⟨_, rfl, _, rfl, _, _, rfl, rfl, _, rfl, x, C, dx1, _, rfl, hx1, T.cl, T.no _ (by decide +kernel), (by show 2 < 1000; decide), ?_⟩
    have e1 : putF "position" (V.int (((n + 1 : Nat) : Int) + (z : Int))) (rdF a (n + 1)) = rdF a (n + 1 + z) := by
      rw [putA (ns := rdN) 1 rfl (by decide +kernel)]
      rfl
    refine ⟨_, rfl, x, C, dx1, rdF a (n + 1 + z), _, rfl, upd_same.trans (by rw [← e1]), T.cl, T.no _ (by decide +kernel), look (ns := rdN) 0 rfl (by decide +kernel) rfl, _, rfl, _, rfl, _, rfl, x, C, dx1, rdF a (n + 1 + z), _, rfl, upd_same.trans (by rw [← e1]), T.cl, T.no _ (by decide +kernel), look (ns := rdN) 1 rfl (by decide +kernel) rfl, _, rfl, a, nats l, rfl, ?_, fun p np => ?_⟩
    · exact keepSqI (M := [x]) (Keep.upd (Keep.same (Same.refl _)) (Or.inl (by simp))) ha1 (fun b hb => by rw [List.mem_singleton.mp hb]; exact ⟨_, _, _, hx1⟩)
    · have px : p ≠ x := fun e => by
        rw [e, upd_same] at np
        cases np
      have np1 : H1 p = none := by rwa [upd_ne px] at np
      refine q _ p ⟨dx1, (upd_ne (Ne.symm px)).trans (upd_same.trans (by rw [← e1]))⟩ (k1.free (by simpa using px) np1) ?_ ?_
      · show upd _ p _ p = _
        rw [upd_same, cut_nats l (n + 1) (n + 1 + z) (by omega) hle, Nat.add_sub_cancel_left]
      · exact knew (Keep.upd k1 (Or.inl (by simp))) np
end
end NuP
end
/-! # NuP5b -/
section
set_option Elab.async false
set_option maxRecDepth 100000
set_option maxHeartbeats 4000000
set_option linter.all false
namespace NuP
open PySem PySem.Spec PyProof.Rows L2
/-- a comprehension whose parts change nothing, by the turns' numbers -/
theorem lc_pure {J : It} {n : Nat} {G : Hp → Prop} {Y : Nat → Hp → V → Hp → Prop} (wk : Walk J n G Y) {xv : Nat → V} (hY : ∀ j H x H', j < n → Y j H x H' → H' = H ∧ x = xv j) {D : Addr} {tt : TT} {te : TE} {vs : List Nat} {σ : L2.St} {H1 : Hp} {Qd : Hp → Prop} {i : Nat} {p : Nat → Bool} {f : Nat → V}
    (hD : H1 D = none) (hz : n ≤ sizeLine) (hG : ∀ H, Same H1 H → G H) (hw : ∀ x, wipe ((wipe σ vs).set i (some x)) vs = wipe σ vs)
    (ht : ∀ j H Q, j < n → Same H1 H → Q (p j) H → tt ((wipe σ vs).set i (some (xv j))) H Q) (he : ∀ j H Q, j < n → p j = true → Same H1 H → Q (f j) H → te ((wipe σ vs).set i (some (xv j))) H Q)
    (hd : ∀ H, Same H1 H → H D = some (.lst (((List.range n).filter p).map f)) → Qd H) :
    ∃ W : Nat → Nat → Hp → Prop, (∃ m, W 0 m (upd H1 D (.lst []))) ∧ ∀ j m H, W j m H → (J.stop j H ∧ Qd H) ∨ (J.go j H ∧ ∃ Nx : Hp → Prop, (∀ H', Nx H' → ∃ m', m' < m ∧ W (j + 1) m' H') ∧
      ∀ x H', J.yld j H x H' → gName i x (wipe σ vs) H' fun s2 H2 => wipe s2 vs = wipe σ vs ∧ tt s2 H2 fun b H3 => if b = true then te s2 H3 fun y H4 => ∃ acc, H4 D = some (.lst acc) ∧ acc.length < sizeLine ∧ Nx (upd H4 D (.lst (acc ++ [y]))) else Nx H3) := by
  refine lc_it wk (fun j H => Same H1 H ∧ H D = some (.lst (((List.range j).filter p).map f))) ⟨Same.upd' (Same.refl _) hD, upd_same⟩ (fun j H _ h => hG H h.1) ?_ (fun H ⟨s1, g1⟩ => hd H s1 g1)
  rintro j x H H' hj ⟨s1, g1⟩ hy
  obtain ⟨rfl, rfl⟩ := hY j H x H' hj hy
  refine ⟨hw _, ht j _ _ hj s1 ?_⟩
  have fs : (List.range (j + 1)).filter p = (List.range j).filter p ++ if p j = true then [j] else [] := by
    rw [List.range_succ, List.filter_append]
    congr 1
    by_cases q : p j = true <;> simp [q]
  by_cases q : p j = true
  · rw [q]
    refine iteT (he j _ _ hj q s1 ⟨_, g1, ?_, Same.upd' s1 hD, ?_⟩)
    · rw [List.length_map]
      have := List.length_filter_le p (List.range j)
      rw [List.length_range] at this
      omega
    · rw [upd_same, fs, if_pos q, List.map_append]
      rfl
  · rw [Bool.eq_false_iff.mpr q]
    refine iteF ⟨s1, ?_⟩
    rw [fs, if_neg q, List.append_nil]
    exact g1
theorem yAt {xs : List V} : ∀ j H x H', j < xs.length → YAt xs j H x H' → H' = H ∧ x = xs.getD j .non := by
  rintro j H x H' hj ⟨h1, h2⟩
  refine ⟨h1, ?_⟩
  rw [List.getD_eq_getElem?_getD, h2]
  rfl
theorem getD_refs {as : List Addr} {j : Nat} {a : Addr} (h : as[j]? = some a) : (as.map V.ref).getD j .non = V.ref a := by
  rw [List.getD_eq_getElem?_getD, List.getElem?_map, h]
  rfl
theorem getD_nats {l : List Nat} {j : Nat} {a : Nat} (h : l[j]? = some a) : (nats l).getD j .non = natV a := by
  rw [List.getD_eq_getElem?_getD, nats_at, h]
  rfl
theorem range_map {α β : Type} (l : List α) (f : α → β) (g : Nat → β) (h : ∀ j a, l[j]? = some a → g j = f a) : (List.range l.length).map g = l.map f := by
  refine List.ext_getElem (by simp) fun j h1 h2 => ?_
  rw [List.getElem_map, List.getElem_map, List.getElem_range]
  exact h j _ (List.getElem?_eq_getElem (by simpa using h2))
end NuP
namespace NuP
open PySem PySem.Spec PyProof.Rows L2
/-- a comprehension without tests -/
theorem lc_made {J : It} {n : Nat} {G : Hp → Prop} {Y : Nat → Hp → V → Hp → Prop} (wk : Walk J n G Y) {D : Addr} {te : TE} {vs : List Nat} {σ : L2.St} {H1 : Hp} {Qd : Hp → Prop} {i : Nat} (Pv : Nat → Hp → Prop) (h0 : Pv 0 (upd H1 D (.lst []))) (hG : ∀ j H, j ≤ n → Pv j H → G H)
    (hw : ∀ x, wipe ((wipe σ vs).set i (some x)) vs = wipe σ vs)
    (hs : ∀ j x H H', j < n → Pv j H → Y j H x H' → te ((wipe σ vs).set i (some x)) H' fun y H4 => ∃ acc, H4 D = some (.lst acc) ∧ acc.length < sizeLine ∧ Pv (j + 1) (upd H4 D (.lst (acc ++ [y])))) (hd : ∀ H, Pv n H → Qd H) :
    ∃ W : Nat → Nat → Hp → Prop, (∃ m, W 0 m (upd H1 D (.lst []))) ∧ ∀ j m H, W j m H → (J.stop j H ∧ Qd H) ∨ (J.go j H ∧ ∃ Nx : Hp → Prop, (∀ H', Nx H' → ∃ m', m' < m ∧ W (j + 1) m' H') ∧
      ∀ x H', J.yld j H x H' → gName i x (wipe σ vs) H' fun s2 H2 => wipe s2 vs = wipe σ vs ∧ tYes s2 H2 fun b H3 => if b = true then te s2 H3 fun y H4 => ∃ acc, H4 D = some (.lst acc) ∧ acc.length < sizeLine ∧ Nx (upd H4 D (.lst (acc ++ [y]))) else Nx H3) :=
  lc_it wk Pv h0 hG (fun j x H H' hj p y => ⟨hw x, show (if true = true then te ((wipe σ vs).set i (some x)) H' (fun y H4 => ∃ acc, H4 D = some (.lst acc) ∧ acc.length < sizeLine ∧ Pv (j + 1) (upd H4 D (.lst (acc ++ [y])))) else Pv (j + 1) H') from iteT (hs j x H H' hj p y)⟩) hd
end NuP
end
/-! # NuP6a -/
section
set_option linter.all false
namespace NuP
open Sq63
/-! ### transitions as the program reads them -/
def pairUp : List (List Nat) → List Transition
  | a :: b :: r => ⟨a, b⟩ :: pairUp r
  | _ => []
def transW (n : Nat) (l : List Nat) : Option (List Transition) := match rowsW l with
  | none => none
  | some R => if R.length % 2 = 1 then none else if R.all (placesOk n) = true then some (pairUp R) else none
theorem trans_spec (n : Nat) : ∀ (f : Nat) (l : List Nat), l.length ≤ f → transitions n f l = transW n l
  | 0, l, h => by
    have : l = [] := List.eq_nil_of_length_eq_zero (by omega)
    subst this
    unfold transW
    rw [rowsW_nil]
    rfl
  | f + 1, l, h => by
    cases l with
    | nil =>
      unfold transW
      rw [rowsW_nil]
      rfl
    | cons k r =>
      unfold transitions
      unfold transW
      rw [rowsW_cons]
      by_cases h1 : r.length < k
      · rw [if_pos h1]
        have : placesOf n (k :: r) = none := if_pos (Or.inl h1)
        rw [this]
        rfl
      · rw [if_neg h1]
        by_cases h2 : placesOk n (r.take k) = true
        · have : placesOf n (k :: r) = some (r.take k, r.drop k) := if_neg (by rintro (q | q); exact h1 q; rw [h2] at q; cases q)
          rw [this]
          simp only [Option.bind_some]
          cases hr : r.drop k with
          | nil =>
            rw [rowsW_nil]
            simp [placesOf]
          | cons k2 r2 =>
            have hl2 : r2.length + 1 ≤ r.length := by
              have := congrArg List.length hr
              simp at this
              omega
            rw [rowsW_cons]
            by_cases h3 : r2.length < k2
            · rw [if_pos h3]
              have : placesOf n (k2 :: r2) = none := if_pos (Or.inl h3)
              rw [this]
              rfl
            · rw [if_neg h3]
              by_cases h4 : placesOk n (r2.take k2) = true
              · have : placesOf n (k2 :: r2) = some (r2.take k2, r2.drop k2) := if_neg (by rintro (q | q); exact h3 q; rw [h4] at q; cases q)
                rw [this]
                simp only [Option.bind_some]
                rw [trans_spec n f (r2.drop k2) (by rw [List.length_drop]; simp at h; omega)]
                unfold transW
                cases rowsW (r2.drop k2) with
                | none => rfl
                | some R =>
                  simp only [Option.map_some, List.length_cons]
                  by_cases h5 : R.length % 2 = 1
                  · have h6 : (R.length + 1 + 1) % 2 = 1 := by omega
                    simp only [h5, h6, if_true, Option.map_none]
                  · have h6 : ¬ (R.length + 1 + 1) % 2 = 1 := by omega
                    simp only [h5, h6, if_false, List.all_cons, h2, h4, Bool.true_and]
                    by_cases h7 : R.all (placesOk n) = true
                    · simp only [h7, if_true, Option.map_some]
                      rfl
                    · simp only [h7, Bool.false_eq_true, if_false, Option.map_none]
              · have : placesOf n (k2 :: r2) = none := if_pos (Or.inr (Bool.eq_false_iff.mpr h4))
                rw [this]
                cases rowsW (r2.drop k2) with
                | none => rfl
                | some R =>
                  simp only [Option.map_some, List.all_cons, Bool.eq_false_iff.mpr h4, Bool.false_and, Bool.and_false, Bool.false_eq_true, if_false]
                  split <;> rfl
        · have : placesOf n (k :: r) = none := if_pos (Or.inr (Bool.eq_false_iff.mpr h2))
          rw [this]
          cases rowsW (r.drop k) with
          | none => rfl
          | some R =>
            simp only [Option.map_some, List.all_cons, Bool.eq_false_iff.mpr h2, Bool.false_and, Bool.false_eq_true, if_false]
            split <;> rfl
theorem pairUp_at : ∀ (R : List (List Nat)) (i : Nat) (a b : List Nat), R[2 * i]? = some a → R[2 * i + 1]? = some b → (pairUp R)[i]? = some ⟨a, b⟩
  | [], i, a, b, h, _ => by simp at h
  | [x], i, a, b, _, h => by
    have := (List.getElem?_eq_some_iff.mp h).1
    simp at this
  | x :: y :: R, 0, a, b, h1, h2 => by
    have e1 : x = a := by simpa using h1
    have e2 : y = b := by simpa using h2
    rw [e1, e2]
    rfl
  | x :: y :: R, i + 1, a, b, h1, h2 => by
    have e1 : 2 * (i + 1) = 2 * i + 1 + 1 := by omega
    have e2 : 2 * (i + 1) + 1 = 2 * i + 1 + 1 + 1 := by omega
    rw [e1] at h1
    rw [e2] at h2
    exact pairUp_at R i a b (by simpa using h1) (by simpa using h2)
theorem pairUp_len : ∀ (R : List (List Nat)), (pairUp R).length = R.length / 2
  | [] => rfl
  | [x] => by simp [pairUp]
  | x :: y :: R => by
    show (pairUp R).length + 1 = (R.length + 1 + 1) / 2
    rw [pairUp_len R]
    omega
theorem pairUp_ok {n : Nat} : ∀ (R : List (List Nat)), R.all (placesOk n) = true → ∀ t, t ∈ pairUp R → placesOk n t.takes = true ∧ placesOk n t.puts = true
  | [], _, t, h => by simp [pairUp] at h
  | [x], _, t, h => by simp [pairUp] at h
  | x :: y :: R, hR, t, h => by
    rw [List.all_cons, List.all_cons, Bool.and_eq_true, Bool.and_eq_true] at hR
    rcases List.mem_cons.mp h with rfl | h
    · exact ⟨hR.1, hR.2.1⟩
    · exact pairUp_ok R hR.2.2 t h
theorem places_len {n : Nat} {l : List Nat} (h : placesOk n l = true) : l.length ≤ n := by
  obtain ⟨h1, h2⟩ := Nu.placesOk_iff.mp h
  have := Nu.nodup_sub_len (Nu.rise_nodup h1) (L := List.range n) fun x hx => List.mem_range.mpr (h2 x hx)
  simpa using this
end NuP
namespace NuP
theorem rowsW_len (R : List (List Nat)) : ∀ (m : Nat) (l : List Nat), l.length = m → rowsW l = some R → R.length ≤ l.length ∧ ∀ r, r ∈ R → r.length ≤ l.length := by
  intro m
  induction m using Nat.strongRecOn generalizing R with
  | _ m ih =>
    intro l hm h
    cases l with
    | nil =>
      rw [rowsW_nil] at h
      cases h
      exact ⟨Nat.le_refl _, by simp⟩
    | cons k r =>
      rw [rowsW_cons] at h
      by_cases h1 : r.length < k
      · rw [if_pos h1] at h
        cases h
      · rw [if_neg h1] at h
        cases h2 : rowsW (r.drop k) with
        | none => rw [h2] at h; cases h
        | some T =>
          rw [h2] at h
          cases h
          obtain ⟨h3, h4⟩ := ih (r.drop k).length (by rw [List.length_drop, ← hm, List.length_cons]; omega) T (r.drop k) rfl h2
          rw [List.length_drop] at h3
          refine ⟨by simp only [List.length_cons]; omega, fun x hx => ?_⟩
          rcases List.mem_cons.mp hx with rfl | hx
          · rw [List.length_take, List.length_cons]
            omega
          · have := h4 x hx
            rw [List.length_drop] at this
            rw [List.length_cons]
            omega
end NuP
end
/-! # NuP6 -/
section
set_option Elab.async false
set_option maxRecDepth 100000
set_option maxHeartbeats 4000000
set_option linter.all false
namespace NuP
open PySem PySem.Spec PyProof.Rows L2
theorem rg2 {n : Nat} (h : n ≤ 20000) (e : n % 2 = 0) : RgC 0 (n : Int) 2 (n / 2) := by
  refine ⟨by decide, by decide, ?_, ?_⟩
  · have e : Builtin.Range.rangeSize 0 (n : Int) 2 = ((n / 2 : Nat) : Int) := by
      unfold Builtin.Range.rangeSize
      rw [if_pos (by decide)]
      split <;> omega
    unfold Builtin.Range.small
    rw [e, if_pos (show (2 : Int) > 0 by decide)]
    unfold Builtin.Range.rangeFitsLong
    simp only [Bool.and_eq_true, Bool.or_eq_true, decide_eq_true_eq, beq_iff_eq]
    omega
  · unfold Builtin.Range.rangeSize
    rw [if_pos (by decide)]
    split <;> omega
section
variable {P : Program} {w : World} {K : PySem.W.Frag} {mg : Str → Option Value} {base : Heap}
abbrev sRead : Stmt := top 10
def spRead (C : Addr) (K : PySem.W.Frag) : Sp := fun vs H Q _ => ∃ (a : Addr) (l : List Nat) (n : Nat), vs = [.ref a, natV n] ∧ SqL K H a (nats l) ∧ l.length ≤ 20000 ∧ n ≤ 9 ∧ (transW n l = none → ∀ H', Same H H' → Q .non H') ∧
  (∀ ts, transW n l = some ts → ∀ (H' : Hp) (p : Addr) (as : List Addr), Same H H' → H p = none → H' p = some (.lst (as.map V.ref)) → AllAt (TrAt C H') as ts → Q (.ref p) H')
abbrev nRead : List Str := ["numbers", "places", "rows", "row", "k"]
theorem scRead : FnScope nRead ["numbers", "places"] (defScope sRead) := ⟨rfl, rfl, rfl, by decide +kernel, rfl, by decide +kernel, by decide +kernel⟩
theorem ok_read {C f fS fR fT : Addr} {fd fdS fdR fdT : FuncData} (F : Fun K "read_transitions" "read_transitions" sRead f fd) (T : ClsT K mg "Transition" C ["takes", "puts"]) (gLen : mg "len" = none) (gAll : mg "all" = none) (gRan : mg "range" = none)
    (GS : FnOk P w K mg base CX0 1 fS fdS ["numbers"] (spSpl K)) (bS : Binds K fdS ["numbers"] []) (gS : mg "split_rows" = some (.ref fS)) (kS : PySem.W.keepIn K (.ref fS) = true)
    (GR : FnOk P w K mg base CX0 1 fR fdR ["numbers", "bound"] (spRis K)) (bR : Binds K fdR ["numbers", "bound"] []) (gR : mg "is_rising_below" = some (.ref fR)) (kR : PySem.W.keepIn K (.ref fR) = true)
    (GT : FnOk P w K mg base CX0 1 fT fdT ["self", "takes", "puts"] (spTrans C)) (bT : Binds K fdT ["self", "takes", "puts"] []) (mT : Mk K C fT) : FnOk P w K mg base CX0 3 f fd ["numbers", "places"] (spRead C K) := by
  refine F.ok scRead (fun vs H Q E h => ?_) (fun cdv A outer s H vs Q E hr h => ?_)
  · obtain ⟨a, l, n, rfl, _⟩ := h
    rfl
  · obtain ⟨a, l, n, rfl, ha, hz, hn, qN, qS⟩ := h
    have hr1 : Room 1 _ := hr.mono (by decide)
    refine ⟨_, pss_cons (ps_set (i := 2) scRead.nd rfl (Or.inr rfl) (pe_call GS hr1 rfl gS kS bS .nil pass0 (pa_cons (pv 0) pa_nil)))
      (pss_cons (ps_if (PW.pt (pw_or (pt_cmpR op_isN (pv 2) pe_non (nomark _)) (pw_or1 (pt_cmpR op_eq (pe_op op_mod (pe_callB call_len_seq (by rfl) gLen PySem.boot_len (pa_cons (pv 2) pa_nil)) pe_int) pe_int (nomark _))))) (pss_one (ps_ret pe_non)) pss_nil)
      (pss_cons (ps_if (pt_not (pt_val (pe_callB (cr_all rfl) (by rfl) gAll (by decide +kernel) (pa_cons (pe_lc (own := [("row", 3)]) (g := gName 3) (tt := tYes) (te := tCall (spRis K) [] E0 (tCons (tVar 3) (tCons (tVar 1) tNil))) rfl scRead.nd (pi_list (pv 2)) (blkOk_by (own := [("row", 3)]) (N := nRead) (sc := defScope sRead) (by decide +kernel))
          (fun _ _ _ _ _ => pg_name (i := 3) scRead.nd rfl (Or.inl rfl)) (fun _ _ _ _ _ => pts_nil) (fun _ _ _ _ _ => pe_call GR hr1 rfl gR kR bR .nil pass0 (pa_cons (pv 3) (pa_cons (pv 1) pa_nil)))) pa_nil)))) (pss_one (ps_ret pe_non)) pss_nil)
      (pss_one (ps_ret (pe_lc (own := [("k", 4)]) (g := gName 4) (tt := tYes) (te := tMake C (spTrans C) [] E0 (tCons (tOp (rIxL K) (tVar 2) (tVar 4)) (tCons (tOp (rIxL K) (tVar 2) (tOp (rI0 fun i j => .int (i + j)) (tVar 4) (tC (.int 1)))) tNil))) rfl scRead.nd (pi_range3 (by rfl) gRan (pa_cons pe_int (pa_cons (pe_callB call_len_seq (by rfl) gLen PySem.boot_len (pa_cons (pv 2) pa_nil)) (pa_cons pe_int pa_nil)))) (blkOk_by (own := [("k", 4)]) (N := nRead) (sc := defScope sRead) (by decide +kernel))
          (fun _ _ _ _ _ => pg_name (i := 4) scRead.nd rfl (Or.inl rfl)) (fun _ _ _ _ _ => pts_nil) (fun _ _ _ _ _ => pe_make mT GT hr rfl T.gl bT .nil pass0 (pa_cons (pe_ix ix_list (pv 2) (pv 4) (fun _ _ => rfl)) (pa_cons (pe_ix ix_list (pv 2) (pe_op op_add (pv 4) pe_int) (fun _ _ => rfl)) pa_nil)))))))), ?_⟩
    refine ⟨_, rfl, a, l, rfl, ha, hz, fun hN H1 s1 => ?_, fun R hS H1 p as s1 np gp hA => ?_⟩
    · refine ⟨_, rfl, rfl, _, rfl, ite2 (fun _ => iteT (qN ?_ _ s1)) (fun c => absurd rfl c)⟩
      unfold transW
      rw [hN]
    · refine ⟨_, rfl, rfl, _, rfl, ite2 (fun c => absurd (of_decide_eq_true c) (fun z => by cases z)) (fun _ => ?_)⟩
      refine ⟨_, rfl, p, _, rfl, .inl (SqL.of gp), _, _, rfl, rfl, (by show (0 : Int) < 2; decide), rfl, _, rfl, ?_⟩
      rw [List.length_map, hA.len]
      obtain ⟨hRl, hRr⟩ := rowsW_len R _ l rfl hS
      refine ite2 (fun c => qN ?_ _ s1) (fun c => ?_)
      · have c : R.length % 2 = 1 := by have := V.int.inj (of_decide_eq_true c); omega
        unfold transW
        rw [hS]
        exact if_pos c
      have c : ¬ R.length % 2 = 1 := fun e => c (decide_eq_true (congrArg V.int (by omega)))
      refine ⟨_, rfl, p, rfl, ⟨_, SqL.of gp⟩, fun D hD => ?_⟩
      refine lc_pure (walk_list (K := K) (a := p) (xs := as.map V.ref)) yAt (p := fun _ => true) (f := fun j => .bl (Sq63.placesOk n (R.getD j []))) hD (by rw [List.length_map, hA.len]; exact size_big (by omega)) (fun H s2 => SqL.of (s2 _ _ gp)) (fun x => rfl) (fun j H Q _ _ h => h) (fun j H2 Q2 hj _ s2 h => ?_) fun H2 s2 g2 => ?_
      · rw [List.length_map, hA.len] at hj
        obtain ⟨b, hb, gb⟩ := hA.get (List.getElem?_eq_getElem hj)
        rw [getD_refs hb]
        refine ⟨_, rfl, _, rfl, b, R[j], n, rfl, SqL.of (s2 _ _ gb), ?_, ?_⟩
        · have := hRr R[j] (List.getElem_mem hj)
          omega
        · have e : R.getD j [] = R[j] := by rw [List.getD_eq_getElem?_getD, List.getElem?_eq_getElem hj]; rfl
          rw [e] at h
          exact h
      · rw [filter_yes, List.length_map, hA.len, range_map R (fun r => V.bl (Sq63.placesOk n r)) _ (fun j r hr => by rw [List.getD_eq_getElem?_getD, hr]; rfl)] at g2
        refine ⟨D, R.map (Sq63.placesOk n), rfl, SqL.of (by rw [g2, List.map_map]; rfl), _, rfl, ?_⟩
        rw [List.all_map]
        have s3 := s1.trans s2
        by_cases c2 : R.all (Sq63.placesOk n) = true
        · rw [show R.all (id ∘ Sq63.placesOk n) = true from c2]
          refine iteF ⟨_, rfl, p, _, rfl, .inl (SqL.of (s2 _ _ gp)), ?_⟩
          rw [List.length_map, hA.len]
          refine ⟨0, (R.length : Int), 2, R.length / 2, rfl, rg2 (by omega) (by omega), fun D2 hD2 => ?_⟩
          have ht : transW n l = some (pairUp R) := by
            unfold transW
            rw [hS]
            simp only [c, c2, if_false, if_true]
          refine lc_made walk_rangeC (fun j H => Same H2 H ∧ ∃ bs : List Addr, H D2 = some (.lst (bs.map V.ref)) ∧ AllAt (fun b t => ∃ dx tk pt, H b = some (.ins C dx (trF tk pt)) ∧ H2 tk = some (.lst (nats t.takes)) ∧ H2 pt = some (.lst (nats t.puts)) ∧ t.takes.length ≤ 400 ∧ t.puts.length ≤ 400) bs ((pairUp R).take j)) ⟨snew (Same.refl _) hD2, [], upd_same, AllAt.nil⟩ (fun _ _ _ _ => trivial) (fun x => rfl) ?_ ?_
          · rintro j x H3 H3' hj ⟨s4, bs, gD, hB⟩ ⟨rfl, rfl⟩
            have hj2 : 2 * j + 1 < R.length := by omega
            have e1 : (0 : Int) + ((j : Nat) : Int) * 2 = ((2 * j : Nat) : Int) := by omega
            obtain ⟨b1, hb1, gb1⟩ := hA.get (List.getElem?_eq_getElem (show 2 * j < R.length by omega))
            obtain ⟨b2, hb2, gb2⟩ := hA.get (List.getElem?_eq_getElem hj2)
            refine ⟨_, rfl, _, rfl, p, _, _, V.ref b1, rfl, rfl, SqL.of (s4 _ _ (s2 _ _ gp)), (by rw [e1]; exact atI_nat (by rw [List.getElem?_map, hb1]; rfl)), ?_⟩
            refine ⟨_, rfl, _, rfl, _, _, rfl, rfl, p, _, _, V.ref b2, rfl, rfl, SqL.of (s4 _ _ (s2 _ _ gp)), (by rw [e1, show ((2 * j : Nat) : Int) + 1 = ((2 * j + 1 : Nat) : Int) by omega]; exact atI_nat (by rw [List.getElem?_map, hb2]; rfl)), ?_⟩
            intro x dx nx nd ne
            refine ⟨x, dx, b1, b2, rfl, upd_same, fun H4 gx kp => ?_⟩
            have s5 : Same H3' H4 := Same.made nx nd fun b o e hb => kp b o e (by simpa using hb)
            have hDx : D2 ≠ x := ne_of_none gD nx
            have t1 := pairUp_ok R c2
            have tj := pairUp_at R j _ _ (List.getElem?_eq_getElem (show 2 * j < R.length by omega)) (List.getElem?_eq_getElem hj2)
            have tk := List.mem_of_getElem? tj
            have k1 := places_len (t1 _ tk).1
            have k2 := places_len (t1 _ tk).2
            refine ⟨rfl, bs.map V.ref, s5 _ _ gD, ?_, Same.upd' (s4.trans s5) hD2, bs ++ [x], ?_, ?_⟩
            · rw [List.length_map, hB.len, List.length_take]
              exact Nat.lt_of_le_of_lt (Nat.min_le_left _ _) (Nat.lt_of_lt_of_le (show j < 20000 by omega) (size_big (Nat.le_refl _)))
            · rw [upd_same, List.map_append]
              rfl
            · rw [List.take_add_one, tj]
              refine AllAt.snoc (hB.mono fun b t hb ⟨dx', tk', pt', h1, h2⟩ => ⟨dx', tk', pt', ?_, h2⟩) ⟨dx, b1, b2, ?_, s2 _ _ gb1, s2 _ _ gb2, (by show R[2 * j].length ≤ 400; have : R[2 * j].length ≤ n := k1; omega), (by show R[2 * j + 1].length ≤ 400; have : R[2 * j + 1].length ≤ n := k2; omega)⟩
              · rw [upd_ne (ne_of h1 gD (fun z => by cases z)), s5 _ _ h1]
              · rw [upd_ne (Ne.symm hDx), gx]
          · rintro H3 ⟨s4, bs, gD, hB⟩
            rw [List.take_of_length_le (by rw [pairUp_len]; exact Nat.le_refl _)] at hB
            refine qS _ ht H3 D2 bs (s3.trans s4) (s3.free hD2) gD (hB.mono fun b t _ ⟨dx, tk, pt, h1, h2, h3, h4, h5⟩ => ⟨dx, tk, pt, h1, s4 _ _ h2, s4 _ _ h3, h4, h5⟩)
        · rw [show R.all (id ∘ Sq63.placesOk n) = false from Bool.eq_false_iff.mpr c2]
          refine iteT (qN ?_ _ s3)
          unfold transW
          rw [hS]
          simp only [c, c2, if_false]
          rfl
end
end NuP
end
/-! # NuP7 -/
section
set_option Elab.async false
set_option maxRecDepth 100000
set_option maxHeartbeats 4000000
set_option linter.all false
namespace NuP
open PySem PySem.Spec PyProof.Rows L2
abbrev TupAt (H : Hp) (a : Addr) (l : List Nat) : Prop := H a = some (.tup (nats l))
/-- a net stands at a -/
structure NetAt (CN CT : Addr) (H : Hp) (a : Addr) (g : Sq63.Net) (m0 : List Nat) : Prop where
  ex : ∃ dx tl m as, H a = some (.ins CN dx (netF g.n tl m)) ∧ H tl = some (.lst (as.map V.ref)) ∧ TupAt H m m0 ∧ AllAt (TrAt CT H) as g.ts
  n9 : g.n ≤ 9
  m0k : Sq63.placesOk g.n m0 = true
  tsk : ∀ t, t ∈ g.ts → Sq63.placesOk g.n t.takes = true ∧ Sq63.placesOk g.n t.puts = true ∧ t.takes ≠ []
  t8 : g.ts.length ≤ 8
theorem NetAt.same {CN CT : Addr} {H H' : Hp} {a : Addr} {g : Sq63.Net} {m0 : List Nat} (h : NetAt CN CT H a g m0) (s : Same H H') : NetAt CN CT H' a g m0 := by
  obtain ⟨dx, tl, m, as, h1, h2, h3, h4⟩ := h.ex
  exact ⟨⟨dx, tl, m, as, s _ _ h1, s _ _ h2, s _ _ h3, h4.mono fun b t _ q => q.same s⟩, h.n9, h.m0k, h.tsk, h.t8⟩
theorem reach_ok {g : Sq63.Net} {m0 m : List Nat} (h0 : Sq63.placesOk g.n m0 = true) (ht : ∀ t, t ∈ g.ts → Sq63.placesOk g.n t.puts = true) (h : Nu.Reach g m0 m) : Sq63.placesOk g.n m = true := by
  induction h with
  | base => exact h0
  | @step m t _ hm _ ih =>
    obtain ⟨h1, h2⟩ := Nu.placesOk_iff.mp ih
    obtain ⟨h3, h4⟩ := Nu.placesOk_iff.mp (ht t hm)
    refine Nu.placesOk_iff.mpr ⟨Nu.union_rise (h1.filter _), fun p hp => ?_⟩
    rcases Nu.mem_union.mp hp with hp | hp
    · exact h4 p hp
    · exact h2 p (List.mem_filter.mp hp).1
/-- a marking as a dict's key -/
def mk (m : List Nat) : List Key := m.map fun n : Nat => (Sum.inl (n : Int) : Key)
/-- len of a list or tuple -/
def rLenS (K : PySem.W.Frag) : List V → Hp → VK → Prop := fun xs H Q => ∃ p ys, xs = [.ref p] ∧ (SqL K H p ys ∨ SqT K H p ys) ∧ Q (.int ys.length) H
theorem mk_kV (m : List Nat) : (mk m).map kV = nats m := by
  unfold mk nats
  rw [List.map_map]
  rfl
def unKey : Key → Nat
  | .inl i => i.toNat
  | .inr _ => 0
theorem mk_un (l : List Nat) : (mk l).map unKey = l := by
  unfold mk
  rw [List.map_map]
  exact (List.map_congr_left fun n _ => rfl).trans (map_self l)
theorem mk_inj {a b : List Nat} (h : mk a = mk b) : a = b := by
  have := congrArg (List.map unKey) h
  rwa [mk_un, mk_un] at this
def kvsOf (K : List (List Nat)) : List (List Key × V) := K.map fun m => (mk m, .bl true)
theorem kvs_some (K : List (List Nat)) (m : List Nat) : (valV (kvsOf K) (mk m)).isSome = decide (m ∈ K) := by
  rw [← valV_any, Bool.eq_iff_iff, decide_eq_true_iff, List.any_eq_true]
  constructor
  · rintro ⟨x, h1, h2⟩
    obtain ⟨y, h3, rfl⟩ := List.mem_map.mp h1
    rw [← mk_inj (of_decide_eq_true h2)]
    exact h3
  · intro h
    exact ⟨(mk m, .bl true), List.mem_map.mpr ⟨m, h, rfl⟩, decide_eq_true rfl⟩
section
variable {P : Program} {w : World} {K : PySem.W.Frag} {mg : Str → Option Value} {base : Heap}
/-! ### are_transitions_allowed -/
abbrev sAlw : Stmt := top 11
def allowed (ts : List Sq63.Transition) : Bool := decide (ts.length ≤ 8) && ts.all fun t => decide (0 < t.takes.length)
def spAlw (C : Addr) : Sp := fun vs H Q _ => ∃ (p : Addr) (as : List Addr) (ts : List Sq63.Transition), vs = [.ref p] ∧ H p = some (.lst (as.map V.ref)) ∧ AllAt (TrAt C H) as ts ∧ ts.length ≤ 20000 ∧ ∀ H', Same H H' → Q (.bl (allowed ts)) H'
abbrev nAlw : List Str := ["transitions", "transition"]
theorem scAlw : FnScope nAlw ["transitions"] (defScope sAlw) := ⟨rfl, rfl, rfl, by decide +kernel, rfl, by decide +kernel, by decide +kernel⟩
theorem ok_alw {C f : Addr} {fd : FuncData} {tk : Tok} (F : Fun K "are_transitions_allowed" "are_transitions_allowed" sAlw f fd) (T : ClsT K mg "Transition" C ["takes", "puts"]) (gLen : mg "len" = none) (gAll : mg "all" = none) (g8 : mg "MOST_TRANSITIONS" = some (.int 8 tk)) :
    FnOk P w K mg base CX0 1 f fd ["transitions"] (spAlw C) := by
  refine F.ok scAlw (fun vs H Q E h => ?_) (fun cdv A outer s H vs Q E hr h => ?_)
  · obtain ⟨p, as, ts, rfl, _⟩ := h
    rfl
  · obtain ⟨p, as, ts, rfl, gp, hA, hz, q⟩ := h
    refine ⟨_, pss_cons (ps_if (pt_cmpR op_gt (pe_callB call_len_seq (by rfl) gLen PySem.boot_len (pa_cons (pv 0) pa_nil)) (pe_glob (v := .int 8) rfl g8 ⟨_, rfl⟩) (nomark _)) (pss_one (ps_ret pe_bl)) pss_nil)
      (pss_one (ps_ret (pe_callB (cr_all rfl) (by rfl) gAll (by decide +kernel) (pa_cons (pe_lc (own := [("transition", 1)]) (g := gName 1) (tt := tYes) (te := tOp (rI0 fun i j => .bl (decide (j < i))) (tCB (rLenS K) (tCons (tFld K (tVar 1) "takes") tNil)) (tC (.int 0))) rfl scAlw.nd (pi_list (pv 0)) (blkOk_by (own := [("transition", 1)]) (N := nAlw) (sc := defScope sAlw) (by decide +kernel))
        (fun _ _ _ _ _ => pg_name (i := 1) scAlw.nd rfl (Or.inl rfl)) (fun _ _ _ _ _ => pts_nil) (fun _ _ _ _ _ => pe_cmpR op_gt (pe_callB (r := rLenS K) call_len_seq (by rfl) gLen PySem.boot_len (pa_cons (pe_fld (pv 1) rfl) pa_nil)) pe_int (nomark _))) pa_nil)))), ?_⟩
    refine ⟨_, rfl, p, _, rfl, .inl (SqL.of gp), _, _, rfl, rfl, _, rfl, ?_⟩
    rw [List.length_map, hA.len]
    refine ite2 (fun c => ?_) (fun c => ?_)
    · have c : 8 < ts.length := by have := of_decide_eq_true c; omega
      have e : allowed ts = false := by
        unfold allowed
        rw [decide_eq_false (by omega)]
        rfl
      exact e ▸ q H (Same.refl _)
    have c : ts.length ≤ 8 := by have := of_decide_eq_false (Bool.eq_false_iff.mpr c); omega
    refine ⟨_, rfl, p, rfl, ⟨_, SqL.of gp⟩, fun D hD => ?_⟩
    refine lc_pure (walk_list (K := K) (a := p) (xs := as.map V.ref)) yAt (p := fun _ => true) (f := fun j => .bl (decide (0 < (ts.getD j ⟨[], []⟩).takes.length))) hD (by rw [List.length_map, hA.len]; exact size_big hz) (fun H s2 => SqL.of (s2 _ _ gp)) (fun x => rfl) (fun j H Q _ _ h => h) (fun j H2 Q2 hj _ s2 h => ?_) fun H2 s2 g2 => ?_
    · rw [List.length_map, hA.len] at hj
      obtain ⟨b, hb, dx, tk, pt, h1, h2, h3, h4, h5⟩ := hA.get (List.getElem?_eq_getElem hj)
      rw [getD_refs hb]
      have e : ts.getD j ⟨[], []⟩ = ts[j] := by rw [List.getD_eq_getElem?_getD, List.getElem?_eq_getElem hj]; rfl
      rw [e] at h
      refine ⟨_, rfl, b, C, dx, _, _, rfl, s2 _ _ h1, T.cl, T.no _ (by decide +kernel), look (ns := ["takes", "puts"]) 0 rfl (by decide +kernel) rfl, tk, _, rfl, .inl (SqL.of (s2 _ _ h2)), _, _, rfl, rfl, ?_⟩
      rw [nats_len]
      have e2 : decide ((0 : Int) < ((ts[j].takes.length : Nat) : Int)) = decide (0 < ts[j].takes.length) := by
        rw [decide_eq_decide]
        omega
      show Q2 (.bl (decide ((0 : Int) < ((ts[j].takes.length : Nat) : Int)))) H2
      rw [e2]
      exact h
    · rw [filter_yes, List.length_map, hA.len, range_map ts (fun t => V.bl (decide (0 < t.takes.length))) _ (fun j r hr => by rw [List.getD_eq_getElem?_getD, hr]; rfl)] at g2
      refine ⟨D, ts.map fun t => decide (0 < t.takes.length), rfl, SqL.of (by rw [g2, List.map_map]; rfl), ?_⟩
      have e : (ts.map fun t => decide (0 < t.takes.length)).all id = allowed ts := by
        unfold allowed
        rw [List.all_map, decide_eq_true c]
        rfl
      rw [e]
      exact q _ s2
/-! ### keeps_to_bounds -/
abbrev sBnd : Stmt := top 12
def spBnd (CN CT : Addr) : Sp := fun vs H Q _ => ∃ (x : Addr) (g : Sq63.Net) (m0 : List Nat), vs = [.ref x] ∧ NetAt CN CT H x g m0 ∧ ∀ H', Same H H' → Q (.bl (g.reach m0).isSome) H'
abbrev nBnd : List Str := ["net", "come_to", "waiting", "marking", "transition", "behind"]
theorem scBnd : FnScope nBnd ["net"] (defScope sBnd) := ⟨rfl, rfl, rfl, by decide +kernel, rfl, by decide +kernel, by decide +kernel⟩
/-- between two turns -/
def IB (x d wl : Addr) (g : Sq63.Net) (m0 : List Nat) (H : Hp) (m : Nat) (σ : L2.St) (H' : Hp) : Prop := ∃ (C W : List (List Nat)) (ws : List Addr) (v3 v4 v5 : Option V), m = 2 * (140 - C.length) + W.length ∧ C.length ≤ 128 ∧ σ = [some (.ref x), some (.ref d), some (.ref wl), v3, v4, v5] ∧ Same H H' ∧
  H' d = some (.dT (kvsOf C)) ∧ H' wl = some (.lst (ws.map V.ref)) ∧ AllAt (TupAt H') ws W ∧ W.length ≤ C.length ∧ Nu.Stack g m0 C W
theorem reach_some {g : Sq63.Net} {m0 : List Nat} (h : Nu.Bounded g m0) : (g.reach m0).isSome = true := by
  obtain ⟨r, e⟩ := Nu.reach_iff.mpr h
  rw [e]
  rfl
theorem reach_no {g : Sq63.Net} {m0 : List Nat} (h : ¬ Nu.Bounded g m0) : (g.reach m0).isSome = false := by
  cases e : g.reach m0 with
  | none => rfl
  | some r => exact absurd (Nu.reach_iff.mp ⟨r, e⟩) h
theorem ok_bnd {CN CT f fM fT fF : Addr} {fd fdM fdT fdF : FuncData} {tk : Tok} (F : Fun K "keeps_to_bounds" "keeps_to_bounds" sBnd f fd) (TN : ClsT K mg "Net" CN ["places", "transitions", "marking"]) (TT : ClsT K mg "Transition" CT ["takes", "puts"]) (gLen : mg "len" = none) (g128 : mg "MOST_MARKINGS" = some (.int 128 tk))
    (GM : FnOk P w K mg base CX0 1 fM fdM ["self", "marking"] (spMay CT K)) (bM : Binds K fdM ["self", "marking"] []) (mM : Meth K CT "may_fire" fM)
    (GT : FnOk P w K mg base CX0 2 fT fdT ["self", "marking"] (spTwo CT K)) (bT : Binds K fdT ["self", "marking"] []) (mT : Meth K CT "makes_two_tokens" fT)
    (GF : FnOk P w K mg base CX0 2 fF fdF ["self", "marking"] (spFire CT K)) (bF : Binds K fdF ["self", "marking"] []) (mF : Meth K CT "fire" fF) : FnOk P w K mg base CX0 3 f fd ["net"] (spBnd CN CT) := by
  refine F.ok scBnd (fun vs H Q E h => ?_) (fun cdv A outer s H vs Q E hr h => ?_)
  · obtain ⟨x, g, m0, rfl, _⟩ := h
    rfl
  · obtain ⟨x, g, m0, rfl, hN, q⟩ := h
    have hr1 : Room 1 _ := hr.mono (by decide)
    have hu := hu_of hr
    refine ⟨_, pss_cons (ps_set (i := 1) scBnd.nd rfl (Or.inl rfl) (NuR.pe_disp1T hu (pe_fld (pv 0) rfl) pe_bl))
      (pss_cons (ps_set (i := 2) scBnd.nd rfl (Or.inl rfl) (pe_lst (pa_cons (pe_fld (pv 0) rfl) pa_nil)))
      (pss_cons (ps_while PassesOwn.never (pt_cmpR op_gt (pe_callB call_len_seq (by rfl) gLen PySem.boot_len (pa_cons (pv 2) pa_nil)) pe_int (nomark _))
        (pss_cons (ps_set (i := 3) scBnd.nd rfl (Or.inl rfl) (pe_bm0 PySem.F.plainAttrs_list PySem.F.slot_list_pop PySem.F.type_list_pop mt_pop (pv 2)))
        (pss_cons (ps_for PassesOwn.never rfl (pi_list (pe_fld (pv 0) rfl)) (pg_name (i := 4) scBnd.nd rfl (Or.inl rfl))
          (pss_cons (ps_if (pt_not (pt_val (pe_meth (pv 4) TT.cl mM GM hr1 bM .nil pass0 (pa_cons (pv 3) pa_nil)))) (pss_one ps_continue) pss_nil)
          (pss_cons (ps_if (pt_val (pe_meth (pv 4) TT.cl mT GT hr bT .nil pass0 (pa_cons (pv 3) pa_nil))) (pss_one (ps_ret pe_bl)) pss_nil)
          (pss_cons (ps_set (i := 5) scBnd.nd rfl (Or.inl rfl) (pe_meth (pv 4) TT.cl mF GF hr bF .nil pass0 (pa_cons (pv 3) pa_nil)))
          (pss_one (ps_if (pt_cmp (pc_dnotin hu (pv 5) (pv 1))) (pss_cons (ps_dput hu (pv 1) (pv 5) pe_bl rfl)
            (pss_one (ps_expr (pe_bm PySem.F.plainAttrs_list PySem.F.slot_list_append PySem.F.type_list_append mt_append (pv 2) (pa_cons (pv 5) pa_nil))))) pss_nil))))))
        (pss_one (ps_if (pt_cmpR op_gt (pe_callB call_len_dT (by rfl) gLen PySem.boot_len (pa_cons (pv 1) pa_nil)) (pe_glob (v := .int 128) rfl g128 ⟨_, rfl⟩) (nomark _)) (pss_one (ps_ret pe_bl)) pss_nil)))))
      (pss_one (ps_ret pe_bl)))), ?_⟩
    obtain ⟨dx, tl, mA, as, h1, h2, h3, h4⟩ := hN.ex
    have lk : ∀ {i : Nat} {k : Str} {v : V}, (["places", "transitions", "marking"] : List Str).findIdx? (· == k) = some i → ((netF g.n tl mA)[i]?.map (·.2)) = some v → (netF g.n tl mA).lookup k = some v := fun a b => look _ rfl a b
    intro d nd
    have s1 : Same H (upd H d (.dT [])) := snew (Same.refl _) nd
    refine ⟨_, rfl, x, CN, dx, _, _, rfl, s1 _ _ h1, TN.cl, TN.no _ (by decide +kernel), lk (i := 2) (by decide +kernel) rfl, mA, mk m0, rfl, (s1 _ _ h3).trans (by rw [mk_kV]), upd_same, ?_⟩
    have s2 : Same H (upd (upd H d (.dT [])) d (.dT [(mk m0, .bl true)])) := Same.upd' s1 nd
    refine ⟨_, rfl, x, CN, dx, _, _, rfl, s2 _ _ h1, TN.cl, TN.no _ (by decide +kernel), lk (i := 2) (by decide +kernel) rfl, (by show 1 ≤ sizeLine; decide), fun wl nw => ?_⟩
    have dw : d ≠ wl := ne_of_none upd_same nw
    refine ⟨IB x d wl g m0 H, ⟨_, [m0], [m0], [mA], none, none, none, rfl, (by show 1 ≤ 128; decide), rfl, snew s2 nw, (upd_ne dw).trans upd_same, upd_same, AllAt.snoc AllAt.nil (snew s2 nw _ _ h3), Nat.le_refl _, Nu.Stack.start⟩, ?_⟩
    rintro m σ H' ⟨C, W, ws, v3, v4, v5, rfl, hC, rfl, s3, gd, gw, hA, hWl, hS⟩
    refine ⟨_, rfl, wl, _, rfl, .inl (SqL.of gw), _, _, rfl, rfl, _, rfl, ?_⟩
    rw [List.length_map, hA.len]
    refine ite2 (fun c => ⟨fun σ' H2 => ∃ m', m' < 2 * (140 - C.length) + W.length ∧ IB x d wl g m0 H m' σ' H2, fun _ _ h => h, ?_⟩) (fun c => ?_)
    · have c : 0 < W.length := by have := of_decide_eq_true c; omega
      obtain ⟨W', mm, rfl⟩ : ∃ W' mm, W = W' ++ [mm] := by
        rcases Nu.snoc_cases W with h | h
        · rw [h] at c; simp at c
        · exact h
      obtain ⟨ws', b, rfl⟩ : ∃ ws' b, ws = ws' ++ [b] := by
        rcases Nu.snoc_cases ws with h | h
        · have := hA.len; rw [h] at this; simp at this
        · exact h
      have hl' : ws'.length = W'.length := by have := hA.len; simpa using this
      have gb : TupAt H' b mm := hA.at_ ws'.length b mm (by simp) (by rw [hl']; simp)
      have hA' : AllAt (TupAt H') ws' W' := ⟨hl', fun i a y ha hy => hA.at_ i a y (by rw [List.getElem?_append_left (List.getElem?_eq_some_iff.mp ha).1]; exact ha) (by rw [List.getElem?_append_left (List.getElem?_eq_some_iff.mp hy).1]; exact hy)⟩
      have hmm := reach_ok hN.m0k (fun t ht => (hN.tsk t ht).2.1) (hS.rch mm (hS.sub mm (by simp)))
      have lmm := places_len hmm
      have n9 := hN.n9
      refine ⟨_, rfl, .inl ⟨rfl, _, SqL.of gw⟩, wl, _, V.ref b, rfl, rfl, gw, (by simp), ?_⟩
      have eD : ((ws' ++ [b]).map V.ref).dropLast = ws'.map V.ref := by simp
      rw [eD]
      have sW : ∀ c o, H' c = some o → c ≠ wl → upd H' wl (.lst (ws'.map V.ref)) c = some o := fun c o e h => (upd_ne h).trans e
      have s4 : Same H (upd H' wl (.lst (ws'.map V.ref))) := fun c o e => sW c o (s3 c o e) (fun h => by
        have nw2 : H wl = none := s2.free nw
        rw [h, nw2] at e
        cases e)
      have twl : ∀ {a : Addr} {z : List Nat}, TupAt H' a z → a ≠ wl := fun h => ne_of h gw (fun z => by cases z)
      refine ⟨_, rfl, x, CN, dx, _, _, rfl, s4 _ _ h1, TN.cl, TN.no _ (by decide +kernel), lk (i := 1) (by decide +kernel) rfl, tl, rfl, ⟨_, SqL.of (s4 _ _ h2)⟩, ?_⟩
      refine for_list (K := K) (a := tl) (xs := as.map V.ref) (fun j σ H2 => ∃ (C2 W2 : List (List Nat)) (ws2 : List Addr) (v4 v5 : Option V), σ = [some (.ref x), some (.ref d), some (.ref wl), some (.ref b), v4, v5] ∧ Same H H2 ∧ H2 d = some (.dT (kvsOf C2)) ∧ H2 wl = some (.lst (ws2.map V.ref)) ∧ AllAt (TupAt H2) ws2 W2 ∧
        TupAt H2 b mm ∧ Nu.Turn g m0 mm j C2 W2 ∧ C2.length ≤ C.length + j ∧ C.length ≤ C2.length ∧ W2.length + C.length = W'.length + C2.length) ?_ (fun j σ H2 _ ⟨_, _, _, _, _, _, s5, _⟩ => SqL.of (s5 _ _ h2)) ?_ ?_
      · exact ⟨C, W', ws', v4, v5, rfl, s4, sW _ _ gd dw, upd_same, hA'.mono fun a y _ h => sW _ _ h (twl h), sW _ _ gb (twl gb), hS.pop, by omega, Nat.le_refl _, rfl⟩
      · rintro j y σ H2 hj ⟨C2, W2, ws2, u4, u5, rfl, s5, gd2, gw2, hA2, gb2, hT, hc2, hle, hw2⟩
        obtain ⟨ta, hta, rfl⟩ := refs_get hj
        obtain ⟨t, ht, hTr⟩ := h4.get' hta
        have hTr := hTr.same s5
        have htm := List.mem_of_getElem? ht
        obtain ⟨htk, hpt, htn⟩ := hN.tsk t htm
        have jl : j < 8 := by have := (List.getElem?_eq_some_iff.mp ht).1; have := hN.t8; omega
        have keep : ∀ {H3 : Hp}, Same H2 H3 → H3 d = some (.dT (kvsOf C2)) ∧ H3 wl = some (.lst (ws2.map V.ref)) ∧ AllAt (TupAt H3) ws2 W2 ∧ TupAt H3 b mm := fun s => ⟨s _ _ gd2, s _ _ gw2, hA2.mono fun a y _ h => s _ _ h, s _ _ gb2⟩
        obtain ⟨dt, tk', pt', q1, _⟩ := id hTr.ex
        refine ⟨_, rfl, ta, dt, _, rfl, q1, nolook (ns := ["takes", "puts"]) rfl (by decide +kernel), _, rfl, ta, b, t, mm, rfl, hTr, SqT.of gb2, fun H3 s6 => ⟨_, rfl, ?_⟩⟩
        obtain ⟨gd3, gw3, hA3, gb3⟩ := keep s6
        cases hmay : Sq63.may t mm with
        | false => exact iteT ⟨C2, W2, ws2, _, u5, rfl, s5.trans s6, gd3, gw3, hA3, gb3, hT.skip ht hmay, by omega, hle, hw2⟩
        | true =>
          refine iteF ⟨_, rfl, ta, dt, _, rfl, s6 _ _ q1, nolook (ns := ["takes", "puts"]) rfl (by decide +kernel), _, rfl, ta, b, t, mm, rfl, hTr.same s6, SqT.of gb3, by omega, fun H4 s7 => ⟨_, rfl, ?_⟩⟩
          obtain ⟨gd4, gw4, hA4, gb4⟩ := keep (s6.trans s7)
          cases hsafe : Sq63.safe t mm with
          | false =>
            refine iteT ?_
            show Q (.bl false) H4
            rw [← reach_no (hT.unsafe_ ht hmay hsafe)]
            exact q _ ((s5.trans s6).trans s7)
          | true =>
            refine iteF ⟨_, rfl, ta, dt, _, rfl, s7 _ _ (s6 _ _ q1), nolook (ns := ["takes", "puts"]) rfl (by decide +kernel), _, rfl, ta, b, t, mm, rfl, (hTr.same s6).same s7, SqT.of gb4, by omega, (Nu.placesOk_iff.mp hmm).1, (Nu.placesOk_iff.mp hpt).1, hsafe, fun H5 p s8 np gp => ?_⟩
            obtain ⟨gd5, gw5, hA5, gb5⟩ := keep ((s6.trans s7).trans s8)
            have s9 := ((s5.trans s6).trans s7).trans s8
            refine ⟨_, rfl, _, rfl, d, _, rfl, DGet.t (k := mk (Sq63.fired t mm)) gd5 (gp.trans (by rw [mk_kV])), _, rfl, ?_⟩
            rw [kvs_some]
            by_cases hin : Sq63.fired t mm ∈ C2
            · rw [decide_eq_true hin]
              exact iteF ⟨C2, W2, ws2, _, _, rfl, s9, gd5, gw5, hA5, gb5, hT.seen ht hsafe hin, by omega, hle, hw2⟩
            · rw [decide_eq_false hin]
              refine iteT ⟨_, rfl, _, rfl, d, _, rfl, DPut.t (k := mk (Sq63.fired t mm)) gd5 (gp.trans (by rw [mk_kV])) ?_, ?_⟩
              · unfold kvsOf
                rw [List.length_map]
                exact Nat.lt_of_lt_of_le (show C2.length < 20000 by omega) (size_big (Nat.le_refl _))
              have ek : putK (kvsOf C2) (mk (Sq63.fired t mm)) (.bl true) = kvsOf (C2 ++ [Sq63.fired t mm]) := by
                rw [putK_new]
                · unfold kvsOf
                  rw [List.map_append]
                  rfl
                · cases e : valV (kvsOf C2) (mk (Sq63.fired t mm)) with
                  | none => rfl
                  | some z =>
                    have := kvs_some C2 (Sq63.fired t mm)
                    rw [e, decide_eq_false hin] at this
                    cases this
              rw [ek]
              have gw6 : upd H5 d (.dT (kvsOf (C2 ++ [Sq63.fired t mm]))) wl = some (.lst (ws2.map V.ref)) := (upd_ne (Ne.symm dw)).trans gw5
              have lw : ws2.length = W2.length := hA2.len
              refine ⟨_, rfl, .inl ⟨rfl, _, SqL.of gw6⟩, _, rfl, wl, _, _, rfl, rfl, gw6, ?_, ?_⟩
              · rw [List.length_map, lw]
                have : W'.length + 1 ≤ C.length := by simpa using hWl
                exact Nat.lt_of_lt_of_le (show W2.length < 20000 by omega) (size_big (Nat.le_refl _))
              have pd : p ≠ d := ne_of gp gd5 (fun z => by cases z)
              have pw : p ≠ wl := ne_of gp gw5 (fun z => by cases z)
              have up : ∀ c o, H5 c = some o → c ≠ d → c ≠ wl → upd (upd H5 d (.dT (kvsOf (C2 ++ [Sq63.fired t mm])))) wl (.lst (ws2.map V.ref ++ [V.ref p])) c = some o := fun c o e h1 h2 => (upd_ne h2).trans ((upd_ne h1).trans e)
              have tn : ∀ {a : Addr} {z : List Nat}, TupAt H5 a z → a ≠ d ∧ a ≠ wl := fun h => ⟨ne_of h gd5 (fun z => by cases z), ne_of h gw5 (fun z => by cases z)⟩
              refine ⟨C2 ++ [Sq63.fired t mm], W2 ++ [Sq63.fired t mm], ws2 ++ [p], _, _, rfl, ?_, (upd_ne dw).trans upd_same, upd_same.trans (by rw [List.map_append]; rfl), AllAt.snoc (hA5.mono fun a y _ h => up _ _ h (tn h).1 (tn h).2) (up _ _ gp pd pw), up _ _ gb5 (tn gb5).1 (tn gb5).2, hT.new ht hmay hsafe hin, ?_, ?_, ?_⟩
              · exact fun c o e => up c o (s9 c o e) (fun h => by rw [h, nd] at e; cases e) (fun h => by
                  have nw2 : H wl = none := s2.free nw
                  rw [h, nw2] at e
                  cases e)
              · simp only [List.length_append, List.length_singleton]; omega
              · simp only [List.length_append, List.length_singleton]; omega
              · simp only [List.length_append, List.length_singleton]; omega
      · rintro σ H2 ⟨C2, W2, ws2, u4, u5, rfl, s5, gd2, gw2, hA2, gb2, hT, hc2, hle, hw2⟩
        rw [List.length_map, h4.len] at hT hc2
        have hS2 := hT.done
        have t8 := hN.t8
        refine ⟨_, rfl, d, _, rfl, gd2, _, _, rfl, rfl, _, rfl, ?_⟩
        have ekl : (kvsOf C2).length = C2.length := List.length_map ..
        rw [ekl]
        refine ite2 (fun c => ?_) (fun c => ?_)
        · have c : 128 < C2.length := by have := of_decide_eq_true c; omega
          show Q (.bl false) H2
          rw [← reach_no (hS2.over c)]
          exact q _ s5
        · have c : C2.length ≤ 128 := by have := of_decide_eq_false (Bool.eq_false_iff.mpr c); omega
          have hWl : W'.length + 1 ≤ C.length := by simpa using hWl
          refine ⟨_, ?_, C2, W2, ws2, _, _, _, rfl, c, rfl, s5, gd2, gw2, hA2, ?_, hS2⟩
          · simp only [List.length_append, List.length_singleton]; omega
          · omega
    · have c : W = [] := List.eq_nil_of_length_eq_zero (by have := of_decide_eq_false (Bool.eq_false_iff.mpr c); omega)
      subst c
      show Q (.bl true) H'
      rw [← reach_some (hS.done hC)]
      exact q _ s3
end
end NuP
end
/-! # NuP8 -/
section
set_option Elab.async false
set_option maxRecDepth 100000
set_option maxHeartbeats 4000000
set_option linter.all false
namespace NuP
open PySem PySem.Spec PyProof.Rows L2
/-! ### the heap without some addresses -/
def wo (M : List Addr) (H : Hp) : Hp := fun a => if a ∈ M then none else H a
theorem wo_at {M : List Addr} {H : Hp} {a : Addr} {o : HO} (h : wo M H a = some o) : H a = some o ∧ a ∉ M := by
  unfold wo at h
  by_cases q : a ∈ M
  · rw [if_pos q] at h
    cases h
  · rw [if_neg q] at h
    exact ⟨h, q⟩
theorem wo_mk {M : List Addr} {H : Hp} {a : Addr} {o : HO} (h : H a = some o) (n : a ∉ M) : wo M H a = some o := by
  unfold wo
  rw [if_neg n, h]
theorem wo_same {M : List Addr} {H : Hp} : Same (wo M H) H := fun _ _ h => (wo_at h).1
theorem Keep.wo {M : List Addr} {H H' : Hp} (k : Keep M H H') : Same (wo M H) (NuP.wo M H') := fun a o h => wo_mk (k a o (wo_at h).1 (wo_at h).2) (wo_at h).2
/-- an object has the value at the name -/
abbrev Has (fs : List (Str × V)) (k : Str) (v : V) : Prop := fs.lookup k = some v
theorem AllAt.out {H : Hp} {us : List Addr} {U : List (List Nat)} {a C dx : Addr} {fs : List (Str × V)} (h : AllAt (ListAt H) us U) (ha : H a = some (.ins C dx fs)) : a ∉ us := fun hm => by
  obtain ⟨i, hi⟩ := List.mem_iff_getElem?.mp hm
  obtain ⟨u, _, hu⟩ := h.get' hi
  rw [show H a = some (.lst (nats u)) from hu] at ha
  cases ha
theorem AllAt.outT {H : Hp} {us : List Addr} {U : List (List Nat)} {a : Addr} {xs : List V} (h : AllAt (ListAt H) us U) (ha : H a = some (.tup xs)) : a ∉ us := fun hm => by
  obtain ⟨i, hi⟩ := List.mem_iff_getElem?.mp hm
  obtain ⟨u, _, hu⟩ := h.get' hi
  rw [show H a = some (.lst (nats u)) from hu] at ha
  cases ha
/-! ### Event -/
structure EvD where
  t : Nat
  used : List Nat
  made : List Nat
  needs : List Nat
  mark : List Nat
  cut : Bool
def evF (t : Nat) (us md nd mk : Addr) (c : Bool) : List (Str × V) := [("transition", natV t), ("used", .ref us), ("made", .ref md), ("needs", .ref nd), ("marking", .ref mk), ("is_cut_off", .bl c)]
abbrev evN : List Str := ["transition", "used", "made", "needs", "marking", "is_cut_off"]
def EvAt (C : Addr) (H : Hp) (a : Addr) (d : EvD) : Prop := ∃ dx us md nd mk, H a = some (.ins C dx (evF d.t us md nd mk d.cut)) ∧ TupAt H us d.used ∧ ListAt H md d.made ∧ ListAt H nd d.needs ∧ TupAt H mk d.mark
theorem EvAt.same {C : Addr} {H H' : Hp} {a : Addr} {d : EvD} (h : EvAt C H a d) (s : Same H H') : EvAt C H' a d := by
  obtain ⟨dx, us, md, nd, mk, h1, h2, h3, h4, h5⟩ := h
  exact ⟨dx, us, md, nd, mk, s _ _ h1, s _ _ h2, s _ _ h3, s _ _ h4, s _ _ h5⟩
section
variable {P : Program} {w : World} {K : PySem.W.Frag} {mg : Str → Option Value} {base : Heap}
abbrev sEvI : Stmt := inClass (top 19) 0
def spEvI (C : Addr) : Sp := fun vs H Q _ => ∃ (x dx us md nd : Addr) (t : Nat), vs = [.ref x, natV t, .ref us, .ref md, .ref nd] ∧ H x = some (.ins C dx []) ∧ ∀ (H' : Hp) (mk : Addr), H' x = some (.ins C dx (evF t us md nd mk false)) → TupAt H' mk [] → mk ≠ x → H mk = none → Keep [x] H H' → Q .non H'
abbrev nEvI : List Str := ["self", "transition", "used", "made", "needs"]
theorem scEvI : FnScope nEvI nEvI (defScope sEvI) := ⟨rfl, rfl, rfl, by decide +kernel, rfl, by decide +kernel, by decide +kernel⟩
theorem ok_evI {C f : Addr} {fd : FuncData} (F : Fun K "__init__" "Event.__init__" sEvI f fd) (T : ClsT K mg "Event" C evN) : FnOk P w K mg base CX0 1 f fd nEvI (spEvI C) := by
  refine F.ok scEvI (fun vs H Q E h => ?_) (fun cdv A outer s H vs Q E hr h => ?_)
  · obtain ⟨x, dx, us, md, nd, t, rfl, _⟩ := h
    rfl
  · obtain ⟨x, dx, us, md, nd, t, rfl, hx, q⟩ := h
    refine ⟨_, pss_cons (ps_fld (pv 0) (pv 1) rfl) (pss_cons (ps_fld (pv 0) (pv 2) rfl) (pss_cons (ps_fld (pv 0) (pv 3) rfl) (pss_cons (ps_fld (pv 0) (pv 4) rfl) (pss_cons (ps_fld (pv 0) (pe_tup pa_nil) rfl) (pss_one (ps_fld (pv 0) pe_bl rfl)))))), ?_⟩
    refine ⟨_, rfl, _, rfl, x, C, dx, [], rfl, hx, T.cl, T.no _ (by decide +kernel), (by show 0 < 1000; decide), ?_⟩
    refine ⟨_, rfl, _, rfl, x, C, dx, _, rfl, upd_same, T.cl, T.no _ (by decide +kernel), (by show 1 < 1000; decide), ?_⟩
    refine ⟨_, rfl, _, rfl, x, C, dx, _, rfl, upd_same, T.cl, T.no _ (by decide +kernel), (by show 2 < 1000; decide), ?_⟩
    refine ⟨_, rfl, _, rfl, x, C, dx, _, rfl, upd_same, T.cl, T.no _ (by decide +kernel), (by show 3 < 1000; decide), ?_⟩
    refine ⟨by show 0 ≤ sizeLine; decide, fun mk nm => ?_⟩
    have xm : x ≠ mk := ne_of_none upd_same nm
    refine ⟨_, rfl, x, C, dx, _, rfl, (upd_ne xm).trans upd_same, T.cl, T.no _ (by decide +kernel), (by show 4 < 1000; decide), ?_⟩
    refine ⟨_, rfl, x, C, dx, _, rfl, upd_same, T.cl, T.no _ (by decide +kernel), (by show 5 < 1000; decide), ?_⟩
    refine q _ mk (upd_same.trans ?_) ((upd_ne (Ne.symm xm)).trans ((upd_ne (Ne.symm xm)).trans upd_same)) (Ne.symm xm) ?_ fun b o e hb => ?_
    · rw [putN (fs := []) (ns := []) rfl rfl, putN (fs := [] ++ [_]) (ns := ["transition"]) rfl (by decide +kernel), putN (fs := [] ++ [_] ++ [_]) (ns := ["transition", "used"]) rfl (by decide +kernel), putN (fs := [] ++ [_] ++ [_] ++ [_]) (ns := ["transition", "used", "made"]) rfl (by decide +kernel),
        putN (fs := [] ++ [_] ++ [_] ++ [_] ++ [_]) (ns := ["transition", "used", "made", "needs"]) rfl (by decide +kernel), putN (fs := [] ++ [_] ++ [_] ++ [_] ++ [_] ++ [_]) (ns := ["transition", "used", "made", "needs", "marking"]) rfl (by decide +kernel)]
      rfl
    · rw [upd_ne (Ne.symm xm), upd_ne (Ne.symm xm), upd_ne (Ne.symm xm), upd_ne (Ne.symm xm)] at nm
      exact nm
    · have hb : b ≠ x := by simpa using hb
      have hm : b ≠ mk := ne_of_none ((upd_ne hb).trans ((upd_ne hb).trans ((upd_ne hb).trans ((upd_ne hb).trans e)))) nm
      rw [upd_ne hb, upd_ne hb, upd_ne hm, upd_ne hb, upd_ne hb, upd_ne hb, upd_ne hb]
      exact e
/-! ### let_use -/
abbrev sLet : Stmt := inClass (top 20) 2
abbrev nLet : List Str := ["self", "conditions", "condition"]
theorem scLet : FnScope nLet ["self", "conditions"] (defScope sLet) := ⟨rfl, rfl, rfl, by decide +kernel, rfl, by decide +kernel, by decide +kernel⟩
/-- conditions, as data: their places and makers -/
abbrev CdAt (C : Addr) (H : Hp) (a : Addr) (d : Nat × Int) : Prop := CondAt C H a d.1 d.2
theorem CdAt.same {C : Addr} {H H' : Hp} {a : Addr} {d : Nat × Int} (h : CdAt C H a d) (s : Same H H') : CdAt C H' a d := by
  obtain ⟨dx, h⟩ := h
  exact ⟨dx, s _ _ h⟩
def spLet (CU CC : Addr) (K : PySem.W.Frag) : Sp := fun vs H Q _ => ∃ (x dx l cds usb : Addr) (fs : List (Str × V)) (ns : List Nat) (cs us : List Addr) (cd : List (Nat × Int)) (U : List (List Nat)), vs = [.ref x, .ref l] ∧ H x = some (.ins CU dx fs) ∧ Has fs "conditions" (.ref cds) ∧ Has fs "usable" (.ref usb) ∧
  SqL K (wo us H) l (nats ns) ∧ wo us H cds = some (.lst (cs.map V.ref)) ∧ wo us H usb = some (.lst (us.map V.ref)) ∧ AllAt (CdAt CC H) cs cd ∧ AllAt (ListAt H) us U ∧ us.Nodup ∧ (∀ c, c ∈ ns → ∃ d, cd[c]? = some d ∧ d.1 < U.length) ∧ (∀ u, u ∈ U → u.length + ns.length ≤ 20000) ∧
  ∀ H', Keep us H H' → AllAt (ListAt H') us (U.mapIdx fun p u => u ++ ns.filter fun c => ((cd[c]?).map (·.1)).getD 0 == p) → Q .non H'
theorem mapIdx_get {α β : Type} (f : Nat → α → β) (l : List α) (i : Nat) : (l.mapIdx f)[i]? = (l[i]?).map (f i) := List.getElem?_mapIdx ..
theorem ok_let {CU CC f : Addr} {fd : FuncData} (F : Fun K "let_use" "Unfolding.let_use" sLet f fd) (TU : ClsT K mg "Unfolding" CU ["net", "events", "conditions", "beside", "usable", "first_conditions"]) (TC : ClsT K mg "Condition" CC ["place", "maker"]) : FnOk P w K mg base CX0 1 f fd ["self", "conditions"] (spLet CU CC K) := by
  refine F.ok scLet (fun vs H Q E h => ?_) (fun cdv A outer s H vs Q E hr h => ?_)
  · obtain ⟨x, dx, l, cds, usb, fs, ns, cs, us, cd, U, rfl, _⟩ := h
    rfl
  · obtain ⟨x, dx, l, cds, usb, fs, ns, cs, us, cd, U, rfl, hx, f1, f2, hl, hcd, husb, hC, hU, nd, hin, hsz, q⟩ := h
    refine ⟨_, pss_one (ps_for PassesOwn.never rfl (pi_list (pv 1)) (pg_name (i := 2) scLet.nd rfl (Or.inl rfl))
      (pss_one (ps_expr (pe_bm PySem.F.plainAttrs_list PySem.F.slot_list_append PySem.F.type_list_append mt_append (pe_ix ix_list (pe_fld (pv 0) rfl) (pe_fld (pe_ix ix_list (pe_fld (pv 0) rfl) (pv 2) (fun _ _ => rfl)) rfl) (fun _ _ => rfl)) (pa_cons (pv 2) pa_nil))))), ?_⟩
    refine ⟨_, rfl, l, rfl, ⟨_, wo_same.seq hl⟩, for_list (K := K) (a := l) (xs := nats ns) (fun i σ H' => (∃ v, σ = [some (.ref x), some (.ref l), v]) ∧ Keep us H H' ∧ AllAt (ListAt H') us (U.mapIdx fun p u => u ++ (ns.take i).filter fun c => ((cd[c]?).map (·.1)).getD 0 == p)) ?_ ?_ ?_ ?_⟩
    · refine ⟨⟨none, rfl⟩, fun _ _ h _ => h, ?_⟩
      have e : (U.mapIdx fun p u => u ++ (ns.take 0).filter fun c => ((cd[c]?).map (·.1)).getD 0 == p) = U := by
        refine List.ext_getElem? fun i => ?_
        rw [mapIdx_get]
        cases U[i]? <;> simp
      rw [e]
      exact hU
    · rintro i σ H' _ ⟨_, k, _⟩
      exact (wo_same.trans (Same.refl _)).seq (k.wo.seq hl)
    · rintro i y σ H' hi ⟨⟨v, rfl⟩, k, hU'⟩
      obtain ⟨n, hn, rfl⟩ := nats_get hi
      obtain ⟨d, hd, hd2⟩ := hin n (List.mem_of_getElem? hn)
      obtain ⟨ca, hca, ⟨dc, hc⟩⟩ := hC.get hd
      have hx' := k _ _ hx (hU.out hx)
      have hc' := k _ _ hc (hU.out hc)
      obtain ⟨uu, huu⟩ : ∃ uu, U[d.1]? = some uu := ⟨_, List.getElem?_eq_getElem hd2⟩
      obtain ⟨ua, hua, gua⟩ := hU'.get (i := d.1) (by rw [mapIdx_get, huu]; rfl)
      have eN : ((cd[n]?).map (·.1)).getD 0 = d.1 := by rw [hd]; rfl
      have i1 : i < ns.length := (List.getElem?_eq_some_iff.mp hn).1
      refine ⟨_, rfl, x, CU, dx, fs, _, rfl, hx', TU.cl, TU.no _ (by decide +kernel), f2, _, rfl, x, CU, dx, fs, _, rfl, hx', TU.cl, TU.no _ (by decide +kernel), f1, _, rfl, cds, _, _, V.ref ca, rfl, rfl, SqL.of (wo_at (k.wo _ _ hcd)).1, atI_nat (by rw [List.getElem?_map, hca]; rfl), ca, CC, dc, _, _, rfl, hc', TC.cl, TC.no _ (by decide +kernel), look (ns := ["place", "maker"]) 0 rfl (by decide +kernel) rfl,
        usb, _, _, V.ref ua, rfl, rfl, SqL.of (wo_at (k.wo _ _ husb)).1, atI_nat (by rw [List.getElem?_map, hua]; rfl), .inl ⟨rfl, _, SqL.of gua⟩, _, rfl, ua, _, _, rfl, rfl, gua, ?_, ?_⟩
      · rw [nats_len, List.length_append]
        have h1 := hsz uu (List.mem_of_getElem? huu)
        have h2 := List.length_filter_le (fun c => ((cd[c]?).map (·.1)).getD 0 == d.1) (ns.take i)
        rw [List.length_take] at h2
        exact Nat.lt_of_lt_of_le (show _ < 20000 by omega) (size_big (Nat.le_refl _))
      · refine ⟨⟨_, rfl⟩, Keep.upd k (Or.inl (List.mem_of_getElem? hua)), ?_⟩
        refine ⟨by rw [hU'.len, List.length_mapIdx, List.length_mapIdx], fun j a u ha hu => ?_⟩
        rw [mapIdx_get] at hu
        cases hUj : U[j]? with
        | none => rw [hUj] at hu; cases hu
        | some u0 =>
          rw [hUj] at hu
          have hu := Option.some.inj hu
          have old := hU'.at_ j a _ ha (by rw [mapIdx_get, hUj]; rfl)
          have tk := filter_take (p := fun c => ((cd[c]?).map (·.1)).getD 0 == j) hn
          by_cases hjd : j = d.1
          · subst hjd
            have : a = ua := Option.some.inj (ha.symm.trans hua)
            subst this
            rw [huu] at hUj
            cases hUj
            show upd H' a _ a = _
            rw [upd_same, ← hu, tk, if_pos (by rw [eN]; exact beq_self_eq_true _)]
            dsimp only
            rw [← List.append_assoc, nats_app (uu ++ _) [n]]
            rfl
          · have hne : a ≠ ua := fun e => hjd (nd_ix nd ha (by rw [e]; exact hua))
            show upd H' ua _ a = _
            rw [upd_ne hne, ← hu, tk, if_neg (by rw [eN]; simp; omega), List.append_nil]
            exact old
    · rintro σ H' ⟨⟨v, rfl⟩, k, hU'⟩
      rw [nats_len, List.take_length] at hU'
      exact q H' k hU'
end
end NuP
end
/-! # NuR13 -/
section
set_option Elab.async false
set_option maxRecDepth 100000
set_option maxHeartbeats 4000000
set_option linter.all false
namespace NuR
open PySem PySem.Spec PyProof.Rows L2
/-- a list or a tuple -/
def SqB (K : PySem.W.Frag) (b : Bool) (H : Hp) (a : Addr) (xs : List V) : Prop := if b = true then SqL K H a xs else SqT K H a xs
def Itb (K : PySem.W.Frag) (b : Bool) (a : Addr) : It := if b = true then Itl K a else Itt K a
def iSeq (K : PySem.W.Frag) (tl : TE) : TI := fun σ H R => tl σ H fun x H1 => ∃ (a : Addr) (b : Bool), x = .ref a ∧ (∃ xs, SqB K b H1 a xs) ∧ R (Itb K b a) H1
theorem pi_seq {X : Cx} {tg l : Expr} {tl : TE} (hl : PE X l tl) : PI X tg l (iSeq X.K tl) := by
  refine ⟨fun pins s σ H R I h => ?_⟩
  refine thn (hl.run pins s σ H _ I h) fun v s1 ⟨x, H1, I1, r1, q1⟩ => ?_
  obtain ⟨a, b, e, ⟨xs, hq⟩, q⟩ := q1
  subst e
  cases r1
  cases b with
  | true =>
    have hq : SqL X.K H1 a xs := hq
    obtain ⟨its, rv, p, hz⟩ := I1.list hq
    refine wpAny_pyIter_list p.isList ?_
    refine ⟨s1.heap.objs.size, [s1.heap.objs.size], _, _, H1, rfl, I1.kept (t' := s1.toks) fun b o e => Heap.get?_push_of_some _ e, turn_list a _, ⟨_, Heap.get?_push_size _ rfl, rfl, rfl⟩, fun b hb => ?_, q⟩
    have e : b = s1.heap.objs.size := by simpa using hb
    subst e
    exact I1.fpOk (Nat.le_refl _) (I1.hok.fresh (Nat.le_refl _))
  | false =>
    have hq : SqT X.K H1 a xs := hq
    obtain ⟨its, rv, p, hz⟩ := I1.tuple hq
    refine wpAny_pyIter_tuple (show s1.heap.IsTuple a its.toArray from p) ?_
    refine ⟨s1.heap.objs.size, [s1.heap.objs.size], _, _, H1, rfl, I1.kept (t' := s1.toks) fun b o e => Heap.get?_push_of_some _ e, turn_tuple a _, ⟨_, Heap.get?_push_size _ rfl, rfl, rfl⟩, fun b hb => ?_, q⟩
    have e : b = s1.heap.objs.size := by simpa using hb
    subst e
    exact I1.fpOk (Nat.le_refl _) (I1.hok.fresh (Nat.le_refl _))
theorem walk_seq {K : PySem.W.Frag} {b : Bool} {a : Addr} {xs : List V} : Walk (Itb K b a) xs.length (fun H => SqB K b H a xs) (YAt xs) := by
  cases b with
  | true => exact walk_list
  | false => exact walk_tup
theorem for_seq {K : PySem.W.Frag} {b : Bool} {a : Addr} {xs : List V} {g : TG} {tb : TS} {D : Ends} {σ : L2.St} {H : Hp} (Pv : Nat → L2.St → Hp → Prop) (h0 : Pv 0 σ H) (hl : ∀ i σ H, i ≤ xs.length → Pv i σ H → SqB K b H a xs)
    (hs : ∀ i x σ H, xs[i]? = some x → Pv i σ H → g x σ H fun σ2 H2 => tb { D with nx := Pv (i + 1), ct := Pv (i + 1), bk := D.nx } σ2 H2) (hd : ∀ σ H, Pv xs.length σ H → D.nx σ H) :
    ∃ W : Nat → Nat → L2.St → Hp → Prop, (∃ m, W 0 m σ H) ∧ ∀ i m σ H, W i m σ H →
      ((Itb K b a).stop i H ∧ D.nx σ H) ∨ ((Itb K b a).go i H ∧ ∃ N : L2.St → Hp → Prop, (∀ σ' H', N σ' H' → ∃ m', m' < m ∧ W (i + 1) m' σ' H') ∧ ∀ x H', (Itb K b a).yld i H x H' → g x σ H' fun σ2 H2 => tb { D with nx := N, ct := N, bk := D.nx } σ2 H2) :=
  for_it walk_seq Pv h0 hl (fun i x σ H H' _ p ⟨e, y⟩ => by rw [e]; exact hs i x σ H y p) hd
theorem SqB.same {K : PySem.W.Frag} {b : Bool} {H H' : Hp} {a : Addr} {xs : List V} (h : SqB K b H a xs) (e : Same H H') : SqB K b H' a xs := by
  cases b with
  | true => exact e.seq (show SqL K H a xs from h)
  | false =>
    rcases (show SqT K H a xs from h) with (h | ⟨o, h⟩) | h
    · exact .inl (.inl (e _ _ h))
    · exact .inl (.inr ⟨o, e _ _ h⟩)
    · exact .inr h
theorem SqB.seq {K : PySem.W.Frag} {b : Bool} {H : Hp} {a : Addr} {xs : List V} (h : SqB K b H a xs) : SqL K H a xs ∨ SqT K H a xs := by
  cases b with
  | true => exact .inl h
  | false => exact .inr h
end NuR
end
/-! # NuP9 -/
section
set_option Elab.async false
set_option maxRecDepth 100000
set_option maxHeartbeats 4000000
set_option linter.all false
namespace NuP
open PySem PySem.Spec PyProof.Rows L2
theorem rgV_nats (n k : Nat) : rgV (n : Int) ((n : Int) + (k : Int)) = nats (List.range' n k) := by
  unfold rgV nats
  rw [List.range'_eq_map_range, List.map_map, show ((n : Int) + (k : Int) - (n : Int)).toNat = k by omega]
  refine List.map_congr_left fun i _ => ?_
  show V.int ((n : Int) + (i : Int)) = V.int (((n + i : Nat)) : Int)
  rw [Int.natCast_add]
theorem sum_pows (l : List Nat) : (l.map fun c => (1 : Int) * 2 ^ c).sum = ((Nu.pows l : Nat) : Int) := by
  unfold Nu.pows
  induction l with
  | nil => rfl
  | cons a l ih =>
    rw [List.map_cons, List.sum_cons, ih, List.map_cons, List.sum_cons, Int.natCast_add, Int.natCast_pow, Int.one_mul]
    rfl
theorem or_nats (a b : Nat) : Builtin.bitOr (a : Int) (b : Int) = ((a ||| b : Nat) : Int) := by
  rw [bitOr_nn (Int.natCast_nonneg a) (Int.natCast_nonneg b), Int.toNat_natCast, Int.toNat_natCast]
/-- the first i of them changed -/
def partly (B : List Nat) (com mb i : Nat) : List Nat := B.mapIdx fun o b => if o < i ∧ com.testBit o = true then b ||| mb else b
theorem partly_zero (B : List Nat) (com mb : Nat) : partly B com mb 0 = B := by
  refine List.ext_getElem? fun i => ?_
  unfold partly
  rw [List.getElem?_mapIdx]
  cases B[i]? <;> simp
theorem partly_all (B : List Nat) (com mb : Nat) : partly B com mb B.length = B.mapIdx fun o b => if com.testBit o = true then b ||| mb else b := by
  refine List.ext_getElem? fun i => ?_
  unfold partly
  rw [List.getElem?_mapIdx, List.getElem?_mapIdx]
  cases e : B[i]? with
  | none => rfl
  | some b =>
    have := (List.getElem?_eq_some_iff.mp e).1
    simp [this]
theorem partly_at {B : List Nat} {com mb i b : Nat} (h : B[i]? = some b) : (partly B com mb i)[i]? = some b := by
  unfold partly
  rw [List.getElem?_mapIdx, h]
  simp
theorem partly_yes {B : List Nat} {com mb i b : Nat} (h : B[i]? = some b) (c : com.testBit i = true) : (partly B com mb i).set i (b ||| mb) = partly B com mb (i + 1) := by
  refine List.ext_getElem? fun j => ?_
  have hi := (List.getElem?_eq_some_iff.mp h).1
  by_cases e : i = j
  · subst e
    rw [List.getElem?_set_self (by unfold partly; rw [List.length_mapIdx]; exact hi)]
    unfold partly
    rw [List.getElem?_mapIdx, h]
    simp [c]
  · rw [List.getElem?_set_ne e]
    unfold partly
    rw [List.getElem?_mapIdx, List.getElem?_mapIdx]
    cases B[j]? with
    | none => rfl
    | some z =>
      have : (j < i) = (j < i + 1) := by rw [eq_iff_iff]; omega
      simp only [this]
theorem partly_no {B : List Nat} {com mb i : Nat} (c : com.testBit i = false) : partly B com mb (i + 1) = partly B com mb i := by
  refine List.ext_getElem? fun j => ?_
  unfold partly
  rw [List.getElem?_mapIdx, List.getElem?_mapIdx]
  cases B[j]? with
  | none => rfl
  | some z =>
    by_cases e : j = i
    · subst e; simp [c]
    · have : (j < i) = (j < i + 1) := by rw [eq_iff_iff]; omega
      simp only [this]
theorem take1 {α : Type} {l : List α} {i : Nat} {x : α} (h : l[i]? = some x) : l.take (i + 1) = l.take i ++ [x] := by
  rw [List.take_add_one, h]
  rfl
theorem ixN_nat {n i : Nat} (h : i < n) : ixN n (i : Int) = some i := by
  unfold ixN
  rw [if_pos (by omega), if_pos (by omega), Int.toNat_natCast]
theorem pow_le_pows : ∀ {l : List Nat} {c : Nat}, c ∈ l → 2 ^ c ≤ Nu.pows l
  | a :: l, c, h => by
    have e : Nu.pows (a :: l) = 2 ^ a + Nu.pows l := by unfold Nu.pows; rw [List.map_cons, List.sum_cons]
    rw [e]
    rcases List.mem_cons.mp h with rfl | h
    · exact Nat.le_add_right _ _
    · exact Nat.le_trans (pow_le_pows h) (Nat.le_add_left _ _)
theorem keepT {K : PySem.W.Frag} {M : List Addr} {H H' : Hp} {a : Addr} {xs : List V} (k : Keep M H H') (h : SqT K H a xs) (hm : ∀ b, b ∈ M → ∃ ys, H b = some (.lst ys)) : SqT K H' a xs := by
  rcases h with (h | ⟨o, h⟩) | h
  · exact .inl (.inl (k _ _ h fun q => by obtain ⟨ys, e⟩ := hm a q; rw [e] at h; cases h))
  · exact .inl (.inr ⟨o, k _ _ h fun q => by obtain ⟨ys, e⟩ := hm a q; rw [e] at h; cases h⟩)
  · exact .inr h
section
variable {P : Program} {w : World} {K : PySem.W.Frag} {mg : Str → Option Value} {base : Heap}
abbrev sBit : Stmt := top 17
abbrev nBit : List Str := ["conditions", "condition"]
theorem scBit : FnScope nBit ["conditions"] (defScope sBit) := ⟨rfl, rfl, rfl, by decide +kernel, rfl, by decide +kernel, by decide +kernel⟩
def spBit (K : PySem.W.Frag) : Sp := fun vs H Q _ => ∃ (l : Addr) (b : Bool) (ls : List Nat), vs = [.ref l] ∧ NuR.SqB K b H l (nats ls) ∧ ls.length ≤ 1000 ∧ (∀ c, c ∈ ls → c ≤ 1000) ∧ ∀ H', Same H H' → Q (natV (Nu.pows ls)) H'
theorem ok_bit {f : Addr} {fd : FuncData} (F : Fun K "bits_of" "bits_of" sBit f fd) (gSum : mg "sum" = none) : FnOk P w K mg base CX0 1 f fd ["conditions"] (spBit K) := by
  refine F.ok scBit (fun vs H Q E h => ?_) (fun cdv A outer s H vs Q E hr h => ?_)
  · obtain ⟨l, b, ls, rfl, _⟩ := h
    rfl
  · obtain ⟨l, b, ls, rfl, hl, hn, hc, q⟩ := h
    refine ⟨_, pss_one (ps_ret (pe_callB (cr_sum rfl) (by rfl) gSum (by decide +kernel) (pa_cons (pe_lc (own := [("condition", 1)]) (g := gName 1) (tt := tYes) (te := tOp (rI CPow fun i j => .int (i * 2 ^ j.toNat)) (tC (.int 1)) (tVar 1)) rfl scBit.nd (NuR.pi_seq (pv 0)) (blkOk_by (own := [("condition", 1)]) (N := nBit) (sc := defScope sBit) (by decide +kernel))
          (fun _ _ _ _ _ => pg_name (i := 1) scBit.nd rfl (Or.inl rfl)) (fun _ _ _ _ _ => pts_nil) (fun _ _ _ _ _ => pe_op op_shl pe_int (pv 1))) pa_nil))), ?_⟩
    refine ⟨_, rfl, l, b, rfl, ⟨_, hl⟩, fun D hD => ?_⟩
    refine lc_pure (NuR.walk_seq (K := K) (b := b) (a := l) (xs := nats ls)) yAt (p := fun _ => true) (f := fun j => .int (1 * 2 ^ (ls.getD j 0))) hD (by rw [nats_len]; exact size_big (by omega)) (fun H s2 => hl.same s2) (fun x => rfl) (fun j H Q _ _ h => h) (fun j H2 Q2 hj _ s2 h => ?_) fun H2 s2 g2 => ?_
    · rw [nats_len] at hj
      have hg : ls[j]? = some (ls.getD j 0) := by rw [List.getD_eq_getElem?_getD, List.getElem?_eq_getElem hj]; rfl
      have h1 := hc _ (List.mem_of_getElem? hg)
      rw [getD_nats (a := ls.getD j 0) hg]
      exact ⟨_, rfl, _, _, rfl, rfl, ⟨by omega, by omega, by decide⟩, h⟩
    · rw [filter_yes, nats_len, range_map ls (fun c => V.int (1 * 2 ^ c)) _ (fun j c hc => by rw [List.getD_eq_getElem?_getD, hc]; rfl)] at g2
      refine ⟨D, ls.map (fun c => (1 : Int) * 2 ^ c), rfl, SqL.of (by rw [g2, List.map_map]; rfl), ?_⟩
      rw [sum_pows]
      exact q _ s2
abbrev uN : List Str := ["net", "events", "conditions", "beside", "usable", "first_conditions"]
abbrev sMkc : Stmt := inClass (top 20) 1
abbrev nMkc : List Str := ["self", "places", "maker", "common", "first", "made", "made_bits", "older", "condition", "place"]
theorem scMkc : FnScope nMkc ["self", "places", "maker", "common"] (defScope sMkc) := ⟨rfl, rfl, rfl, by decide +kernel, rfl, by decide +kernel, by decide +kernel⟩
def spMkc (CU CC : Addr) (K : PySem.W.Frag) : Sp := fun vs H Q _ => ∃ (x dx pl cds bes : Addr) (fs : List (Str × V)) (ps B : List Nat) (cs : List Addr) (mk : Int) (com : Nat), vs = [.ref x, .ref pl, .int mk, natV com] ∧ H x = some (.ins CU dx fs) ∧ Has fs "conditions" (.ref cds) ∧ Has fs "beside" (.ref bes) ∧
  (SqL K (wo [cds, bes] H) pl (nats ps) ∨ SqT K H pl (nats ps)) ∧ H cds = some (.lst (cs.map V.ref)) ∧ ListAt H bes B ∧ cds ≠ bes ∧ B.length = cs.length ∧ cs.length + ps.length ≤ 1000 ∧
  ∀ (H' : Hp) (p : Addr) (cs' : List Addr), H p = none → ListAt H' p (List.range' cs.length ps.length) → H' cds = some (.lst ((cs ++ cs').map V.ref)) → ListAt H' bes (Nu.grown_ B com cs.length ps.length) → AllAt (CdAt CC H') cs' (ps.map fun q => (q, mk)) → (∀ c, c ∈ cs' → H c = none) → Keep [cds, bes] H H' → Q (.ref p) H'
/-- between two turns of the second loop -/
def ZI (CC x pl cds bes p : Addr) (ps B : List Nat) (cs : List Addr) (mk : Int) (com : Nat) (H : Hp) (j : Nat) (σ : L2.St) (H' : Hp) : Prop :=
  (∃ v6 v8 v9, σ = [some (.ref x), some (.ref pl), some (.int mk), some (natV com), some (natV cs.length), some (.ref p), some (natV (Nu.pows (List.range' cs.length ps.length))), v6, v8, v9]) ∧ Keep [cds, bes] H H' ∧ ListAt H' p (List.range' cs.length ps.length) ∧
  ∃ cs' : List Addr, H' cds = some (.lst ((cs ++ cs').map V.ref)) ∧ ListAt H' bes ((B.mapIdx fun o b => if com.testBit o = true then b ||| Nu.pows (List.range' cs.length ps.length) else b) ++ ((List.range' cs.length ps.length).take j).map fun c => com ||| (Nu.pows (List.range' cs.length ps.length) - 2 ^ c)) ∧
    AllAt (CdAt CC H') cs' ((ps.take j).map fun q => (q, mk)) ∧ ∀ c, c ∈ cs' → H c = none
theorem ok_mkc {CU CC f fB fH fC : Addr} {fd fdB fdH fdC : FuncData} (F : Fun K "make_conditions" "Unfolding.make_conditions" sMkc f fd) (TU : ClsT K mg "Unfolding" CU uN) (TC : ClsT K mg "Condition" CC ["place", "maker"])
    (gLen : mg "len" = none) (gList : mg "list" = none) (gRan : mg "range" = none) (gZip : mg "zip" = none)
    (GB : FnOk P w K mg base CX0 1 fB fdB ["conditions"] (spBit K)) (bB : Binds K fdB ["conditions"] []) (gB : mg "bits_of" = some (.ref fB)) (kB : PySem.W.keepIn K (.ref fB) = true)
    (GH : FnOk P w K mg base CX0 1 fH fdH ["bits", "number"] spHas) (bH : Binds K fdH ["bits", "number"] []) (gH : mg "has_bit" = some (.ref fH)) (kH : PySem.W.keepIn K (.ref fH) = true)
    (GC : FnOk P w K mg base CX0 1 fC fdC ["self", "place", "maker"] (spCond CC)) (bC : Binds K fdC ["self", "place", "maker"] []) (mC : Mk K CC fC) : FnOk P w K mg base CX0 3 f fd ["self", "places", "maker", "common"] (spMkc CU CC K) := by
  refine F.ok scMkc (fun vs H Q E h => ?_) (fun cdv A outer s H vs Q E hr h => ?_)
  · obtain ⟨x, dx, pl, cds, bes, fs, ps, B, cs, mk, com, rfl, _⟩ := h
    rfl
  · obtain ⟨x, dx, pl, cds, bes, fs, ps, B, cs, mk, com, rfl, hx, f1, f2, hpl, gc, gb, hne, hBl, hsz, q⟩ := h
    have hr1 : Room 1 _ := hr.mono (by decide)
    refine ⟨_, pss_cons (ps_set (i := 4) scMkc.nd rfl (Or.inl rfl) (pe_callB call_len_seq (by rfl) gLen PySem.boot_len (pa_cons (pe_fld (pv 0) rfl) pa_nil)))
      (pss_cons (ps_set (i := 5) scMkc.nd rfl (Or.inl rfl) (pe_listRg rfl (by rfl) gList (prg_2 (by rfl) gRan (pv 4) (pe_op op_add (pv 4) (pe_callB call_len_seq (by rfl) gLen PySem.boot_len (pa_cons (pv 1) pa_nil))))))
      (pss_cons (ps_set (i := 6) scMkc.nd rfl (Or.inl rfl) (pe_call GB hr1 rfl gB kB bB .nil pass0 (pa_cons (pv 5) pa_nil)))
      (pss_cons (ps_for PassesOwn.never rfl (pi_range1 (by rfl) gRan (pa_cons (pv 4) pa_nil)) (pg_name (i := 7) scMkc.nd rfl (Or.inl rfl))
          (pss_one (ps_if (pt_val (pe_call GH hr1 rfl gH kH bH .nil pass0 (pa_cons (pv 3) (pa_cons (pv 7) pa_nil))))
            (pss_one (ps_asg (pe_op op_or (pe_ix ix_list (pe_fld (pv 0) rfl) (pv 7) (fun _ _ => rfl)) (pv 6)) (pg_sub (pe_fld (pv 0) rfl) (pv 7) set_list))) pss_nil)))
      (pss_cons (ps_for PassesOwn.never rfl (NuR.pi_zipM (by rfl) gZip (pa_cons (pv 5) (pa_cons (pv 1) pa_nil))) (pg_tup rfl (pgs_cons (pg_name (i := 8) scMkc.nd rfl (Or.inl rfl)) (pgs_cons (pg_name (i := 9) scMkc.nd rfl (Or.inl rfl)) pgs_nil)))
          (pss_cons (ps_expr (pe_bm PySem.F.plainAttrs_list PySem.F.slot_list_append PySem.F.type_list_append mt_append (pe_fld (pv 0) rfl) (pa_cons (pe_make mC GC hr rfl TC.gl bC .nil pass0 (pa_cons (pv 9) (pa_cons (pv 2) pa_nil))) pa_nil)))
          (pss_one (ps_expr (pe_bm PySem.F.plainAttrs_list PySem.F.slot_list_append PySem.F.type_list_append mt_append (pe_fld (pv 0) rfl) (pa_cons (pe_op op_or (pv 3) (pe_op op_sub (pv 6) (pe_op op_shl pe_int (pv 8)))) pa_nil))))))
      (pss_one (ps_ret (pv 5))))))), ?_⟩
    refine ⟨_, rfl, x, CU, dx, fs, _, rfl, hx, TU.cl, TU.no _ (by decide +kernel), f1, cds, _, rfl, .inl (SqL.of gc), ?_⟩
    rw [List.length_map]
    have xM : x ∉ [cds, bes] := fun q => by
      rcases List.mem_cons.mp q with e | q
      · rw [e, gc] at hx; cases hx
      · rw [List.mem_singleton.mp q, show H bes = _ from gb] at hx; cases hx
    have lsts : ∀ b, b ∈ [cds, bes] → ∃ ys, H b = some (.lst ys) := fun b q => by
      rcases List.mem_cons.mp q with e | q
      · rw [e]; exact ⟨_, gc⟩
      · rw [List.mem_singleton.mp q]; exact ⟨_, gb⟩
    have hplH : SqL K H pl (nats ps) ∨ SqT K H pl (nats ps) := hpl.imp (fun h => wo_same.seq h) id
    refine ⟨_, rfl, _, rfl, _, rfl, pl, _, rfl, hplH, _, _, rfl, rfl, _, _, rfl, rfl, RgOk.of_le (by omega) (by rw [nats_len]; omega) (by omega) (by omega), fun p np => ?_⟩
    rw [nats_len, rgV_nats]
    have k1 : Keep [cds, bes] H (upd H p (.lst (nats (List.range' cs.length ps.length)))) := knew (fun _ _ h _ => h) np
    have pc : p ≠ cds := Ne.symm (ne_of_none gc np)
    have pb : p ≠ bes := Ne.symm (ne_of_none (show H bes = some _ from gb) np)
    refine ⟨_, rfl, p, true, List.range' cs.length ps.length, rfl, SqL.of upd_same, (by rw [List.length_range']; omega), (fun c hc => by rw [List.mem_range'_1] at hc; omega), fun H2 s2 => ?_⟩
    · skip
      have k2 : Keep [cds, bes] H H2 := k1.trans (Keep.same s2)
      have gp2 : ListAt H2 p (List.range' cs.length ps.length) := s2 _ _ upd_same
      refine ⟨_, rfl, (cs.length : Int), rfl, by omega, by omega, ?_⟩
      rw [Int.toNat_natCast]
      refine for_range (lo := 0) (n := cs.length) (fun i σ H' => (∃ v8, σ = [some (.ref x), some (.ref pl), some (.int mk), some (natV com), some (natV cs.length), some (.ref p), some (natV (Nu.pows (List.range' cs.length ps.length))), v8, none, none]) ∧ Keep [cds, bes] H H' ∧ ListAt H' p (List.range' cs.length ps.length) ∧ H' cds = some (.lst (cs.map V.ref)) ∧ ListAt H' bes (partly B com (Nu.pows (List.range' cs.length ps.length)) i)) ?_ ?_ ?_
      · refine ⟨⟨none, rfl⟩, k2, gp2, ?_, ?_⟩
        · exact s2 _ _ ((upd_ne (Ne.symm pc)).trans gc)
        · rw [partly_zero]
          exact s2 _ _ ((upd_ne (Ne.symm pb)).trans gb)
      · rintro i σ H3 hi ⟨⟨v8, rfl⟩, k3, gp3, gc3, gb3⟩
        have hx3 := k3 _ _ hx xM
        have hi2 : i < B.length := by omega
        refine ⟨_, rfl, _, rfl, com, i, (by rw [Int.zero_add]; rfl), _, rfl, ?_⟩
        cases c : com.testBit i with
        | true =>
          refine iteT ⟨_, rfl, x, CU, dx, fs, _, rfl, hx3, TU.cl, TU.no _ (by decide +kernel), f2, _, rfl, bes, _, _, natV B[i], rfl, rfl, SqL.of gb3, ?_, _, rfl, _, _, rfl, rfl, _, rfl, x, CU, dx, fs, _, rfl, hx3, TU.cl, TU.no _ (by decide +kernel), f2, _, rfl, bes, _, _, i, rfl, rfl, gb3, ?_, ?_⟩
          · rw [Int.zero_add]
            exact atI_nat (by rw [nats_at, partly_at (List.getElem?_eq_getElem hi2)]; rfl)
          · rw [Int.zero_add, nats_len]
            exact ixN_nat (by unfold partly; rw [List.length_mapIdx]; exact hi2)
          · refine ⟨⟨_, rfl⟩, Keep.upd k3 (Or.inl (by simp)), (upd_ne pb).trans gp3, (upd_ne hne).trans gc3, ?_⟩
            show upd H3 bes _ bes = _
            rw [upd_same]
            dsimp only
            rw [or_nats, ← partly_yes (List.getElem?_eq_getElem hi2) c, nats, nats, List.map_set]
        | false =>
          refine iteF ⟨⟨_, rfl⟩, k3, gp3, gc3, ?_⟩
          rw [partly_no c]
          exact gb3
      · rintro σ H3 ⟨⟨v8, rfl⟩, k3, gp3, gc3, gb3⟩
        have e1 : partly B com (Nu.pows (List.range' cs.length ps.length)) cs.length = B.mapIdx fun o b => if com.testBit o = true then b ||| Nu.pows (List.range' cs.length ps.length) else b := by rw [← hBl, partly_all]
        rw [e1] at gb3
        refine ⟨_, rfl, _, rfl, p, pl, nats (List.range' cs.length ps.length), nats ps, rfl, ?_⟩
        have start : ZI CC x pl cds bes p ps B cs mk com H 0 [some (.ref x), some (.ref pl), some (.int mk), some (natV com), some (natV cs.length), some (.ref p), some (natV (Nu.pows (List.range' cs.length ps.length))), v8, none, none] H3 :=
          ⟨⟨_, _, _, rfl⟩, k3, gp3, [], by rw [List.append_nil]; exact gc3, by rw [List.take_zero, List.map_nil, List.append_nil]; exact gb3, AllAt.nil, by simp⟩
        have len : (nats (List.range' cs.length ps.length)).length = (nats ps).length := by rw [nats_len, nats_len, List.length_range']
        have seqs : ∀ i σ H', ZI CC x pl cds bes p ps B cs mk com H i σ H' → SqL K H' p (nats (List.range' cs.length ps.length)) := fun i σ H' h => SqL.of h.2.2.1
        rcases hpl with hpl | hpl
        · refine .inl ⟨SqL.of gp3, wo_same.seq (k3.wo.seq hpl), RZ.for_zipL len (ZI CC x pl cds bes p ps B cs mk com H) start (fun i σ H' h => ⟨seqs i σ H' h, wo_same.seq (h.2.1.wo.seq hpl)⟩) ?_ ?_⟩
          · rintro i x' y T σ H4 hx' hy ⟨⟨v6, w8, v9, rfl⟩, k4, gp4, cs', gc4, gb4, hA4, hn4⟩ nT
            obtain ⟨pp, hpp, rfl⟩ := nats_get hy
            have hi : i < ps.length := (List.getElem?_eq_some_iff.mp hpp).1
            have hrg : (List.range' cs.length ps.length)[i]? = some (cs.length + i) := by rw [List.getElem?_range' hi, Nat.one_mul]
            obtain rfl : x' = natV (cs.length + i) := by
              rw [nats_at, hrg] at hx'
              exact (Option.some.inj hx').symm
            have sT : Same H4 (upd H4 T (.tup [natV (cs.length + i), natV pp])) := snew (Same.refl _) nT
            have lc' : cs'.length = i := by rw [hA4.len, List.length_map, List.length_take]; omega
            refine ⟨T, _, rfl, SqT.of upd_same, rfl, _, _, rfl, _, _, rfl, rfl, ?_⟩
            refine ⟨_, rfl, x, CU, dx, fs, _, rfl, sT _ _ (k4 _ _ hx xM), TU.cl, TU.no _ (by decide +kernel), f1, .inl ⟨rfl, _, SqL.of (sT _ _ gc4)⟩, _, rfl, _, rfl, ?_⟩
            intro ca dc nca ndc nec
            refine ⟨ca, dc, pp, mk, rfl, upd_same, fun H5 hca kp => ?_⟩
            have s5 : Same H4 H5 := sT.trans (Same.made nca ndc fun b o e hb => kp b o e (by simpa using hb))
            refine ⟨rfl, cds, _, _, rfl, rfl, s5 _ _ gc4, ?_, ?_⟩
            · rw [List.length_map, List.length_append]
              exact Nat.lt_of_lt_of_le (show _ < 20000 by omega) (size_big (Nat.le_refl _))
            have gb5 : ListAt (upd H5 cds (.lst ((cs ++ cs').map V.ref ++ [V.ref ca]))) bes _ := (upd_ne (Ne.symm hne)).trans (s5 _ _ gb4)
            have ccds : ca ≠ cds := fun e => by
              have := sT _ _ gc4
              rw [← e, nca] at this
              cases this
            have cbes : ca ≠ bes := fun e => by
              have := sT _ _ gb4
              rw [← e, nca] at this
              cases this
            have k5 : Keep [cds, bes] H (upd H5 cds (.lst ((cs ++ cs').map V.ref ++ [V.ref ca]))) := Keep.upd (k4.trans (Keep.same s5)) (Or.inl (by simp))
            refine ⟨_, rfl, x, CU, dx, fs, _, rfl, k5 _ _ hx xM, TU.cl, TU.no _ (by decide +kernel), f2, .inl ⟨rfl, _, SqL.of gb5⟩, _, rfl, _, rfl, _, rfl, _, _, rfl, rfl, ⟨by omega, by omega, by decide⟩, _, _, rfl, rfl, _, _, rfl, rfl, bes, _, _, rfl, rfl, gb5, ?_, ?_⟩
            · rw [nats_len, List.length_append, List.length_mapIdx, List.length_map, List.length_take]
              exact Nat.lt_of_lt_of_le (show _ < 20000 by omega) (size_big (Nat.le_refl _))
            have hle := pow_le_pows (List.mem_of_getElem? hrg)
            have ev : Builtin.bitOr (com : Int) ((Nu.pows (List.range' cs.length ps.length) : Int) - 1 * 2 ^ (((cs.length + i : Nat) : Int)).toNat) = ((com ||| (Nu.pows (List.range' cs.length ps.length) - 2 ^ (cs.length + i)) : Nat) : Int) := by
              rw [Int.toNat_natCast, Int.one_mul, show (2 : Int) ^ (cs.length + i) = ((2 ^ (cs.length + i) : Nat) : Int) by rw [Int.natCast_pow]; rfl, ← Int.ofNat_sub hle, or_nats]
            refine ⟨⟨_, _, _, rfl⟩, Keep.upd k5 (Or.inl (by simp)), (upd_ne pb).trans ((upd_ne pc).trans (s5 _ _ gp4)), cs' ++ [ca], ?_, ?_, ?_, ?_⟩
            · rw [upd_ne hne, upd_same]
              simp
            · show upd _ bes _ bes = _
              rw [upd_same, take1 hrg, List.map_append, ← List.append_assoc]
              dsimp only [List.map_cons, List.map_nil]
              rw [ev]
              exact congrArg (fun z => some (HO.lst z)) (nats_app _ [_]).symm
            · have em : (ps.take i ++ [pp]).map (fun q => (q, mk)) = (ps.take i).map (fun q => (q, mk)) ++ [(pp, mk)] := by simp
              rw [take1 hpp, em]
              refine AllAt.snoc (hA4.mono fun b d _ ⟨db, hb⟩ => ⟨db, ?_⟩) ?_
              · have hb5 := s5 _ _ hb
                have b1 : b ≠ cds := ne_of hb gc4 (fun z => by cases z)
                have b2 : b ≠ bes := ne_of hb gb4 (fun z => by cases z)
                rw [upd_ne b2, upd_ne b1]
                exact hb5
              · obtain ⟨db, hb⟩ := hca
                exact ⟨db, by rw [upd_ne cbes, upd_ne ccds]; exact hb⟩
            · intro b hb
              rcases List.mem_append.mp hb with hb | hb
              · exact hn4 b hb
              · rw [List.mem_singleton.mp hb]
                exact (k4.trans (Keep.same sT)).free (by simp [ccds, cbes]) nca
          · rintro σ H4 ⟨⟨v6, w8, v9, rfl⟩, k4, gp4, cs', gc4, gb4, hA4, hn4⟩
            rw [nats_len, List.length_range'] at gb4 hA4
            rw [List.take_of_length_le (by simp)] at gb4
            rw [List.take_length] at hA4
            exact ⟨_, rfl, q H4 p cs' np gp4 gc4 gb4 hA4 hn4 k4⟩
        · refine .inr ⟨SqL.of gp3, keepT k3 hpl lsts, NuR.for_zipM len (ZI CC x pl cds bes p ps B cs mk com H) start (fun i σ H' h => ⟨seqs i σ H' h, keepT h.2.1 hpl lsts⟩) ?_ ?_⟩
          · rintro i x' y T σ H4 hx' hy ⟨⟨v6, w8, v9, rfl⟩, k4, gp4, cs', gc4, gb4, hA4, hn4⟩ nT
            obtain ⟨pp, hpp, rfl⟩ := nats_get hy
            have hi : i < ps.length := (List.getElem?_eq_some_iff.mp hpp).1
            have hrg : (List.range' cs.length ps.length)[i]? = some (cs.length + i) := by rw [List.getElem?_range' hi, Nat.one_mul]
            obtain rfl : x' = natV (cs.length + i) := by
              rw [nats_at, hrg] at hx'
              exact (Option.some.inj hx').symm
            have sT : Same H4 (upd H4 T (.tup [natV (cs.length + i), natV pp])) := snew (Same.refl _) nT
            have lc' : cs'.length = i := by rw [hA4.len, List.length_map, List.length_take]; omega
            refine ⟨T, _, rfl, SqT.of upd_same, rfl, _, _, rfl, _, _, rfl, rfl, ?_⟩
            refine ⟨_, rfl, x, CU, dx, fs, _, rfl, sT _ _ (k4 _ _ hx xM), TU.cl, TU.no _ (by decide +kernel), f1, .inl ⟨rfl, _, SqL.of (sT _ _ gc4)⟩, _, rfl, _, rfl, ?_⟩
            intro ca dc nca ndc nec
            refine ⟨ca, dc, pp, mk, rfl, upd_same, fun H5 hca kp => ?_⟩
            have s5 : Same H4 H5 := sT.trans (Same.made nca ndc fun b o e hb => kp b o e (by simpa using hb))
            refine ⟨rfl, cds, _, _, rfl, rfl, s5 _ _ gc4, ?_, ?_⟩
            · rw [List.length_map, List.length_append]
              exact Nat.lt_of_lt_of_le (show _ < 20000 by omega) (size_big (Nat.le_refl _))
            have gb5 : ListAt (upd H5 cds (.lst ((cs ++ cs').map V.ref ++ [V.ref ca]))) bes _ := (upd_ne (Ne.symm hne)).trans (s5 _ _ gb4)
            have ccds : ca ≠ cds := fun e => by
              have := sT _ _ gc4
              rw [← e, nca] at this
              cases this
            have cbes : ca ≠ bes := fun e => by
              have := sT _ _ gb4
              rw [← e, nca] at this
              cases this
            have k5 : Keep [cds, bes] H (upd H5 cds (.lst ((cs ++ cs').map V.ref ++ [V.ref ca]))) := Keep.upd (k4.trans (Keep.same s5)) (Or.inl (by simp))
            refine ⟨_, rfl, x, CU, dx, fs, _, rfl, k5 _ _ hx xM, TU.cl, TU.no _ (by decide +kernel), f2, .inl ⟨rfl, _, SqL.of gb5⟩, _, rfl, _, rfl, _, rfl, _, _, rfl, rfl, ⟨by omega, by omega, by decide⟩, _, _, rfl, rfl, _, _, rfl, rfl, bes, _, _, rfl, rfl, gb5, ?_, ?_⟩
            · rw [nats_len, List.length_append, List.length_mapIdx, List.length_map, List.length_take]
              exact Nat.lt_of_lt_of_le (show _ < 20000 by omega) (size_big (Nat.le_refl _))
            have hle := pow_le_pows (List.mem_of_getElem? hrg)
            have ev : Builtin.bitOr (com : Int) ((Nu.pows (List.range' cs.length ps.length) : Int) - 1 * 2 ^ (((cs.length + i : Nat) : Int)).toNat) = ((com ||| (Nu.pows (List.range' cs.length ps.length) - 2 ^ (cs.length + i)) : Nat) : Int) := by
              rw [Int.toNat_natCast, Int.one_mul, show (2 : Int) ^ (cs.length + i) = ((2 ^ (cs.length + i) : Nat) : Int) by rw [Int.natCast_pow]; rfl, ← Int.ofNat_sub hle, or_nats]
            refine ⟨⟨_, _, _, rfl⟩, Keep.upd k5 (Or.inl (by simp)), (upd_ne pb).trans ((upd_ne pc).trans (s5 _ _ gp4)), cs' ++ [ca], ?_, ?_, ?_, ?_⟩
            · rw [upd_ne hne, upd_same]
              simp
            · show upd _ bes _ bes = _
              rw [upd_same, take1 hrg, List.map_append, ← List.append_assoc]
              dsimp only [List.map_cons, List.map_nil]
              rw [ev]
              exact congrArg (fun z => some (HO.lst z)) (nats_app _ [_]).symm
            · have em : (ps.take i ++ [pp]).map (fun q => (q, mk)) = (ps.take i).map (fun q => (q, mk)) ++ [(pp, mk)] := by simp
              rw [take1 hpp, em]
              refine AllAt.snoc (hA4.mono fun b d _ ⟨db, hb⟩ => ⟨db, ?_⟩) ?_
              · have hb5 := s5 _ _ hb
                have b1 : b ≠ cds := ne_of hb gc4 (fun z => by cases z)
                have b2 : b ≠ bes := ne_of hb gb4 (fun z => by cases z)
                rw [upd_ne b2, upd_ne b1]
                exact hb5
              · obtain ⟨db, hb⟩ := hca
                exact ⟨db, by rw [upd_ne cbes, upd_ne ccds]; exact hb⟩
            · intro b hb
              rcases List.mem_append.mp hb with hb | hb
              · exact hn4 b hb
              · rw [List.mem_singleton.mp hb]
                exact (k4.trans (Keep.same sT)).free (by simp [ccds, cbes]) nca
          · rintro σ H4 ⟨⟨v6, w8, v9, rfl⟩, k4, gp4, cs', gc4, gb4, hA4, hn4⟩
            rw [nats_len, List.length_range'] at gb4 hA4
            rw [List.take_of_length_le (by simp)] at gb4
            rw [List.take_length] at hA4
            exact ⟨_, rfl, q H4 p cs' np gp4 gc4 gb4 hA4 hn4 k4⟩
end
end NuP
end
/-! # NuR10 -/
section
set_option Elab.async false
set_option maxRecDepth 100000
set_option maxHeartbeats 4000000
set_option linter.all false
namespace NuR
open PySem PySem.Spec PyProof.Rows L2
section
variable {P : Program} {w : World} {A : Around} {E : Value → Shared → Prop} {s : Shared}
/-- how many it has, from below -/
theorem setR_card_ge {w : World} {h : Heap} {a : Addr} {S : Int → Bool} {n : Nat} (R : SetR w h a S n) {M : List Int} (nd : M.Nodup) (hM : ∀ j, j ∈ M → S j = true) : M.length ≤ n := by
  obtain ⟨o, es, ep, t, ho, _, _, _, nd', hm, _, _, hn, _⟩ := R
  have := Nu.nodup_sub_len nd fun j hj => (hm j).mp (hM j hj)
  have e : (es.toList.map keyOf).length = n := by rw [List.length_map, Array.length_toList]; exact hn
  omega
theorem set_update2 {I : Addr} {fp wr : List Addr} {G : Array GenState → Array GenState → Prop} {n : Nat} {Pv : Nat → Value → Prop} {St : Nat → Shared → Prop} {R : Result → Shared → Prop}
    (W : WalksS P w A.in1 I fp wr G n Pv St) (S : Addr) (hSf : S ∉ fp) (ns B : List Int) (hn : n = ns.length) (hB : ∀ j, j ∈ ns → j ∈ B) (hb : B.length + 1 < scanBound) (hval : ∀ i v, Pv i v → ∃ k t, ns[i]? = some k ∧ v = .int k t) :
    ∀ (k i : Nat) (s : Shared), n - i = k → i ≤ n → St i s → (∃ c, SetR w s.heap S (fun j => decide (j ∈ ns.take i)) c) →
      (∀ s' c, Moved (S :: wr) G s s' → SetR w s'.heap S (fun j => decide (j ∈ ns)) c → R (.ok (.ret .none)) s') →
      codeAny (model P w) A (.builtin "set.update.loop" ⟨[.ref S, .ref I], []⟩) R s := by
  have hSw : S ∉ wr := fun h => hSf (W.sub _ h)
  have hsub : ∀ b ∈ wr, b ∈ S :: wr := fun b hb => List.mem_cons_of_mem _ hb
  intro k
  induction k with
  | zero =>
    intro i s hk' hi hst ⟨c, hS⟩ hR
    have hin : i = n := by omega
    subst hin
    refine codeAny_builtin F.entry_set_update_loop ?_
    rw [Around.under_plainId F.plain_set_update_loop _]
    show wpAny _ A.in1 (pyNext (.ref I) >>= _) _ _ s
    refine wpAny_bind (W.done s _ _ hst fun s' hm => ?_)
    show wpAny _ A.in1 (ret Value.none) _ _ s'
    have e : ns.take i = ns := List.take_of_length_le (by omega)
    rw [e] at hS
    exact wpAny_pure (hR s' c (hm.mono hsub) (hS.at fun o e => hm.heap S o hSw e))
  | succ k ih =>
    intro i s hk' hi hst ⟨c, hS⟩ hR
    have hlt : i < n := by omega
    have hc := setR_card hS (M := B) fun j hj => hB j (List.mem_of_mem_take (of_decide_eq_true hj))
    refine codeAny_builtin F.entry_set_update_loop ?_
    rw [Around.under_plainId F.plain_set_update_loop _]
    show wpAny _ A.in1 (pyNext (.ref I) >>= _) _ _ s
    refine wpAny_bind (W.item i s _ _ hlt hst fun v s' hP hst' hm => ?_)
    obtain ⟨z, t, hz, rfl⟩ := hval i v hP
    have hS' : SetR w s'.heap S (fun j => decide (j ∈ ns.take i)) c := hS.at fun o e => hm.heap S o hSw e
    show wpAny _ A.in1 (holding [Value.int z t] (setAdd S (.int z t)) >>= _) _ _ s'
    refine wpAny_bind (wpAny_holding ?_)
    unfold setAdd
    refine wpAny_holding ?_
    refine wpAny_bind ((intKind P w).pyHash (k := z) (intKind_is _ _ _ _) ?_)
    refine setR_add_hashed (s := { s' with toks := s'.toks + 1 }) hS' (by omega) fun h' hsb hS2 => ?_
    have hS3 : SetR w h' S (fun j => decide (j ∈ ns.take (i + 1))) (if decide (z ∈ ns.take i) = true then c else c + 1) := hS2.congr fun j => by
      rw [List.take_add_one, hz]
      simp [List.mem_append]
    refine wpAny_pure ⟨plainId_quiet F.plain_set_update_loop _, ih (i + 1) _ (by omega) hlt (W.frame _ s' _ _ hst' (Nat.le_succ _) fun b hb o e => ?_) ⟨_, hS3⟩ fun s'' c2 hm'' hS'' => ?_⟩
    · rw [hsb.2 b (fun h : b = S => hSf (by rw [← h]; exact hb))]; exact e
    · refine hR s'' c2 (Moved.trans W.gtrans ((hm.mono hsub).then_heap (Nat.le_succ _) fun b o hb e => ?_) hm'') hS''
      rw [hsb.2 b (fun h : b = S => hb (by rw [h]; exact List.mem_cons_self))]; exact e
theorem fill_list2 {l : Addr} {items : Array Value} (ns B : List Int) (free : A.handled = none) (hl : s.heap.IsList l items) (hit : IntsAre items.toList ns) (hB : ∀ j, j ∈ ns → j ∈ B) (hb : B.length + 1 < scanBound) :
    wpAny (model P w) A.in1.in1 (Builtin.«set.__init__» ⟨[.ref s.heap.objs.size, .ref l], []⟩) (fun f s2 => ∃ r, f = .done (.ret r) ∧ r = .none ∧ ∃ h' tk c, s2 = { s with heap := h', toks := tk } ∧
      SetR w h' s.heap.objs.size (fun j => decide (j ∈ ns)) c ∧ ∀ b o, s.heap.get? b = some o → h'.get? b = some o) E { s with heap := s.heap.push (mt w) } := by
  have sz : items.size = ns.length := Array.length_toList.symm.trans (IntsAre.length hit)
  obtain ⟨⟨oc, od, oda, osl⟩, g0, c0, n0, d0⟩ := hl
  simp only at c0 d0
  subst c0 d0
  have l0 : l < s.heap.objs.size := Heap.lt_size g0
  have g1 : (s.heap.push (mt w)).get? l = some { cls := .type "list", dict := od, data := .seq items n0, slots := osl } := Heap.get?_push_of_some _ g0
  have gS : (s.heap.push (mt w)).get? s.heap.objs.size = some (mt w) := Heap.get?_push_size _ rfl
  have z1 : (s.heap.push (mt w)).objs.size = s.heap.objs.size + 1 := Heap.size_push ..
  have i1 : (s.heap.push (mt w)).IsList l items := ⟨_, g1, rfl, n0, rfl⟩
  have s1 := F.sub_list_set
  have s2 := F.sub_list_frozenset
  have s3 : (Value.type "list" == Value.type "dict") = false := by decide
  have free3 : A.in1.in1.in1.handled = none := by simp [free]
  unfold Builtin.«set.__init__» noKeywords Builtin.Frozenset.updateFrom
  generalize hPI : pyIter = PI
  wp_walk
  subst hPI
  refine wpAny_pyIter_list i1 (wpAny_bind (wpAny_runValue ?_))
  have a1 : l ≠ (s.heap.push (mt w)).objs.size := z1 ▸ Nat.ne_of_lt (Nat.lt_succ_of_lt l0)
  have a2 : s.heap.objs.size ∉ [(s.heap.push (mt w)).objs.size, l] := by simp only [z1, List.mem_cons, List.not_mem_nil, or_false, not_or]; exact ⟨Nat.ne_of_lt (Nat.lt_succ_self _), Nat.ne_of_gt l0⟩
  have vals : ∀ (i : Nat) (v : Value), items[i]? = some v → ∃ k t, ns[i]? = some k ∧ v = .int k t := fun i v hv => by
    have hi : i < ns.length := sz ▸ (Array.getElem?_eq_some_iff.mp hv).1
    obtain ⟨t, rfl⟩ := PyProof.Rows.IntsAre.int_at hit i v (by rw [Array.getElem?_toList, hv])
    exact ⟨ns[i], t, List.getElem?_eq_getElem hi, by simp [List.getD_eq_getElem?_getD, List.getElem?_eq_getElem hi]⟩
  refine set_update2 ((Walks.list free3 _ l a1 items).toS) s.heap.objs.size a2 ns B sz hB hb vals items.size 0 _ rfl (Nat.zero_le _) ⟨⟨_, Heap.get?_push_size _ rfl, rfl, rfl⟩, i1.push _⟩ ⟨0, setR_new_at (Heap.get?_push_of_some _ gS)⟩ ?_
  rintro ⟨h', g2, d2, t2, o2⟩ c mv hS
  obtain rfl : g2 = s.gens := mv.gens
  obtain rfl : d2 = s.drawn := mv.drawn
  obtain rfl : o2 = s.os := mv.os
  refine wpAny_pure (show wpAny _ _ (ret Value.none) _ _ _ from wpAny_pure ⟨_, rfl, rfl, h', t2, c, rfl, hS, fun b o e => ?_⟩)
  have b0 := Heap.lt_size e
  exact mv.heap b o (by simp only [z1, List.mem_cons, List.not_mem_nil, or_false, not_or]; exact ⟨Nat.ne_of_lt b0, Nat.ne_of_lt (Nat.lt_succ_of_lt b0)⟩) (Heap.get?_push_of_some _ (Heap.get?_push_of_some _ e))
set_option maxHeartbeats 8000000 in
theorem set_list2 {l : Addr} {items : Array Value} (ns B : List Int) {Q : Value → Shared → Prop} (free : A.handled = none) (hl : s.heap.IsList l items) (hit : IntsAre items.toList ns) (hB : ∀ j, j ∈ ns → j ∈ B) (hb : B.length + 1 < scanBound)
    (h : ∀ (h' : Heap) (tk c : Nat), SetR w h' s.heap.objs.size (fun j => decide (j ∈ ns)) c → (∀ b o, s.heap.get? b = some o → h'.get? b = some o) → Q (.ref s.heap.objs.size) { s with heap := h', toks := tk }) :
    wpAny (model P w) A (call (.type "set") [.ref l]) Q E s := by
  obtain ⟨cc, tl, e1⟩ := F.called_set.mro
  have e2 := F.called_set.made
  have e3 := F.called_set.sub
  have e4 := F.called_set.notType
  have e5 := F.called_set.canCreate
  have e6 := F.typeCall_set_1 (.ref l)
  refine wpAny_call (codeAny_of_tree (show wpAny _ _ (callAny (.type "set") _) _ _ _ from wpAny_pure ⟨Code.quiet_builtin _ (by decide +kernel), codeAny_builtin F.entry_type_call ?_⟩))
  rw [Around.under_plain (weight_type_call_type "set" [.ref l] []) rfl]
  repeat (any_goals (first | assumption | wp_step))
  refine codeAny_mono (code_set_led1 (.ref l) (E := E) (Q₁ := fun obj s1 => obj = .ref s.heap.objs.size ∧ s1 = { s with heap := s.heap.push (mt w) }) ⟨rfl, rfl⟩) fun r s1 hr => ?_
  rcases r with e | fl
  · exact hr
  cases fl with
  | ret obj =>
    obtain ⟨rfl, rfl⟩ := hr
    have gS : (s.heap.push (mt w)).get? s.heap.objs.size = some (mt w) := Heap.get?_push_size _ rfl
    have tS : Shared.TypeIs { s with heap := s.heap.push (mt w) } (.ref s.heap.objs.size) "set" := ⟨_, gS, rfl⟩
    have e7 := F.called_set.init.lookup
    have e8 := F.called_set.init.bind (.ref s.heap.objs.size)
    repeat (any_goals (first | assumption | wp_step))
    refine codeAny_mono (codeAny_call_builtin (R := wants (fun r s2 => r = .none ∧ ∃ h' tk c, s2 = { s with heap := h', toks := tk } ∧ SetR w h' s.heap.objs.size (fun j => decide (j ∈ ns)) c ∧
        ∀ b o, s.heap.get? b = some o → h'.get? b = some o) E) F.called_set.init.plain F.entry_set_init (check_set_init_1 tS ?_)) fun r2 s2 hr2 => ?_
    · exact wpAny_mono (fill_list2 ns B free hl hit hB hb) (fun f s3 ⟨r, e, h3⟩ => by subst e; exact h3) fun _ _ q => q
    · rcases r2 with e | fl2
      · exact hr2
      cases fl2 with
      | ret r =>
        obtain ⟨rfl, h', tk, c', rfl, q1, q3⟩ := hr2
        repeat (any_goals (first | assumption | wp_step))
        exact h _ _ _ q1 q3
      | _ => exact hr2.elim
  | _ => exact hr.elim
end
section
variable {X : Cx}
/-- the set at p has just these numbers, c of them -/
def rSetM (w : World) (K : PySem.W.Frag) : List V → Hp → VK → Prop := fun xs H Q => ∃ (l : Addr) (ns B : List Int), xs = [V.ref l] ∧ SqL K H l (ns.map V.int) ∧ (∀ j, j ∈ ns → j ∈ B) ∧ B.length + 1 < scanBound ∧
  ∀ (p : Addr) (c : Nat), H p = none → (∀ M : List Int, (∀ j, j ∈ ns → j ∈ M) → c ≤ M.length) → (∀ M : List Int, M.Nodup → (∀ j, j ∈ M → j ∈ ns) → M.length ≤ c) → Q (.ref p) (upd H p (SetO w p (fun j => decide (j ∈ ns)) c))
/-- set(xs) of a list of whole numbers, not too many of which are unlike -/
theorem cr_setM (hc : X.calm = true) : CallR X (.type "set") (rSetM X.w X.K) := by
  intro pins s σ H vs us Q I r h
  obtain ⟨l, ns, B, rfl, hs, hB, hb, q⟩ := h
  obtain ⟨its, rv, hl, _⟩ := I.list hs
  rw [Vals.ref1 r]
  refine set_list2 ns B (I.ok.hd hc) hl.isList rv.ints hB hb fun h' tk c R hk => ?_
  exact ⟨.ref _, _, I.laid (t' := tk) (fun b o e => hk b o e) (Nat.le_refl _) (setO_new R), rfl, q _ c (I.hok.fresh (Nat.le_refl _)) (fun M hM => setR_card R fun j hj => hM j (of_decide_eq_true hj)) fun M nd hM => setR_card_ge R nd fun j hj => decide_eq_true (hM j hj)⟩
/-- len of a set of whole numbers -/
theorem cr_lenSet : CallR X (.builtin "len") (fun xs H Q => ∃ (a : Addr) (S : Int → Bool) (n : Nat), xs = [V.ref a] ∧ H a = some (SetO X.w a S n) ∧ Q (.int n) H) := by
  intro pins s σ H vs us Q I r h
  obtain ⟨a, S, n, rfl, ha, q⟩ := h
  rw [Vals.ref1 r]
  obtain ⟨o, es, ep, t, ho, hex, hd, _, _, _, hb, hf, hn, _⟩ := setO_get I ha
  refine call_len_set ho hex hd hf ?_ ⟨.int n, H, I.tok _, ⟨_, by rw [hn]⟩, q⟩
  have : es.size < 4096 := hb
  omega
end
end NuR
end
/-! # NuR11 -/
section
set_option Elab.async false
set_option maxRecDepth 100000
set_option maxHeartbeats 4000000
set_option linter.all false
namespace NuR
open PySem PySem.Spec PyProof.Rows L2
theorem forIn_skip {α β : Type} {f : α → β → Sem (ForInStep β)} {b : β} : ∀ {l : List α}, (∀ e, e ∈ l → f e b = pure (ForInStep.yield b)) → forIn l b f = pure b
  | [], _ => by rw [List.forIn_nil]
  | a :: l, h => by
    rw [List.forIn_cons, h a (by simp), pure_bind]
    exact forIn_skip fun e he => h e (by simp [he])
section
variable {P : Program} {w : World} {A : Around} {E : Value → Shared → Prop} {s : Shared}
theorem quiet_at {a b r : Addr} {S1 S2 Sr : Int → Bool} {n1 n2 nr : Nat} (R1 : SetR w s.heap a S1 n1) (R2 : SetR w s.heap b S2 n2) (R3 : SetR w s.heap r Sr nr) {Q : Bool → Shared → Prop} (h : Q true s) : wpAny (model P w) A (setsQuiet [a, b, r]) Q E s := by
  have one : ∀ {a : Addr} {S : Int → Bool} {n : Nat} {Q' : Array (Int × Value) → Shared → Prop}, SetR w s.heap a S n → (∀ es : Array (Int × Value), (∀ e ∈ es.toList, GoodE e) → Q' es s) → wpAny (model P w) A (setEntries a) Q' E s := by
    intro a S n Q' R hq
    obtain ⟨o, es, ep, t, ho, hex, hd, g, nd, hm, hb, hf, hn, hr, hl⟩ := R
    exact wpAny_setEntries_of ho hd hf (hq es g)
  unfold setsQuiet
  rw [List.forIn_cons]
  refine wpAny_bind (wpAny_bind (wpAny_bind (one R1 fun es g => ?_)))
  rw [← Array.forIn_toList, forIn_skip (b := (none, ())) (l := es.toList) (fun e he => by
    obtain ⟨k, tk, h1, h2⟩ := g e he
    obtain ⟨e1, e2⟩ := e
    simp only at h1
    subst h1
    rfl)]
  refine wpAny_bind (wpAny_pure (wpAny_pure ?_))
  dsimp only
  rw [List.forIn_cons]
  refine wpAny_bind (wpAny_bind (one R2 fun es g => ?_))
  rw [← Array.forIn_toList, forIn_skip (b := (none, ())) (l := es.toList) (fun e he => by
    obtain ⟨k, tk, h1, h2⟩ := g e he
    obtain ⟨e1, e2⟩ := e
    simp only at h1
    subst h1
    rfl)]
  refine wpAny_bind (wpAny_pure (wpAny_pure ?_))
  dsimp only
  rw [List.forIn_cons]
  refine wpAny_bind (wpAny_bind (one R3 fun es g => ?_))
  rw [← Array.forIn_toList, forIn_skip (b := (none, ())) (l := es.toList) (fun e he => by
    obtain ⟨k, tk, h1, h2⟩ := g e he
    obtain ⟨e1, e2⟩ := e
    simp only at h1
    subst h1
    rfl)]
  refine wpAny_bind (wpAny_pure (wpAny_pure ?_))
  dsimp only
  rw [List.forIn_nil]
  exact wpAny_pure (wpAny_pure h)
theorem walkUnseen_at {a b r : Addr} {S1 S2 Sr : Int → Bool} {n1 n2 nr : Nat} (R1 : SetR w s.heap a S1 n1) (R2 : SetR w s.heap b S2 n2) (R3 : SetR w s.heap r Sr nr) {Q : Array (Int × Value) → Shared → Prop}
    (h : ∀ (arr : Array (Int × Value)) (h' : Heap), (∀ e ∈ arr.toList, GoodE e) → (arr.toList.map keyOf).Nodup → (∀ k, S1 k = true ↔ k ∈ arr.toList.map keyOf) → Heap.SameBut r s.heap h' → SetR w h' r Sr nr → Q arr { s with heap := h' }) :
    wpAny (model P w) A (setWalkUnseen a [b, r] (some r)) Q E s := by
  have R1' := R1
  obtain ⟨o, es, ep, t, ho, hex, hd, g, nd, hm, hb, hf, hn, hr, hl⟩ := R1
  have fin : ∀ arr : Array (Int × Value), arr.toList.Perm es.toList → Q arr s := fun arr pm =>
    h arr s.heap (fun e he => g e (pm.mem_iff.mp he)) ((pm.map keyOf).nodup_iff.mpr nd) (fun k => (hm k).trans (pm.map keyOf).mem_iff.symm) (Heap.SameBut.refl r s.heap) R3
  unfold setWalkUnseen
  refine wpAny_bind (wpAny_setState_of ho hd hf ?_)
  dsimp only
  refine wpAny_bind (wpAny_byText ?_)
  by_cases c : (w.params.followText "set-order" || t.led && t.plain || decide (es.size ≤ 1)) = true
  · refine wp_if_pos c ?_
    unfold setWalk
    refine wpAny_bind (wpAny_setState_of ho hd hf ?_)
    dsimp only
    refine wpAny_bind (wpAny_byText ?_)
    by_cases bt : w.params.followText "set-order" = true
    · refine wp_if_pos bt ?_
      exact wpAny_bind (wpAny_askSetting (wpAny_pure (fin _ (pick_perm _ _))))
    · have bf : w.params.followText "set-order" = false := Bool.eq_false_iff.mpr bt
      refine wp_if_neg bt ?_
      have hdr : (!t.plain && decide (es.size > 1)) = false := by
        rw [bf, Bool.false_or] at c
        cases hp : t.plain with
        | true => rfl
        | false =>
          rw [hp, Bool.and_false, Bool.false_or] at c
          have := of_decide_eq_true c
          rw [decide_eq_false (by omega)]
          rfl
      have hled : t.led = true := hl.resolve_left bt
      refine wp_if_neg (by show ¬ ((!t.plain && decide (es.size > 1)) = true); rw [hdr]; exact Bool.false_ne_true) ?_
      refine wpAny_bind (wpAny_of_eq (a := ()) ?_ ?_)
      · show (if (!t.led && decide (es.size > 1)) = true then unsupported "set:maker-not-led" else pure ()) = pure ()
        rw [hled] <;> rfl
      · exact wpAny_pure (fin es (List.Perm.refl _))
  · refine wp_if_neg c ?_
    refine wpAny_bind (quiet_at R1' R2 R3 ?_)
    refine wp_if_neg (by simp) ?_
    refine wpAny_bind (wpAny_rule ?_)
    obtain ⟨o3, es3, ep3, t3, ho3, hex3, hd3, g3, nd3, hm3, hb3, hf3, hn3, hr3, hl3⟩ := id R3
    refine wpAny_bind (wpAny_setState_of ho3 hd3 hf3 ?_)
    dsimp only
    have hled : w.params.followText "set-order" = true ∨ t.led = true := hl
    split
    · refine wpAny_bind (wpAny_storeSet_of ho3 hd3 (wpAny_pure ?_) (fits_of_scanBound hb3))
      refine h es _ g nd hm (Heap.SameBut.update s.heap r _) ⟨_, es3, _, _, store_at ho3 hd3, hex3, rfl, g3, nd3, hm3, hb3, hf3, hn3, hr3, ?_⟩
      rcases hl3 with q | q
      · exact .inl q
      · rcases hl with q2 | q2
        · exact .inl q2
        · right
          show (t3.led && t.led) = true
          rw [q, q2]
          rfl
    · exact wpAny_pure (fin es (List.Perm.refl _))
end
end NuR
end
/-! # NuR12 -/
section
set_option Elab.async false
set_option maxRecDepth 100000
set_option maxHeartbeats 4000000
set_option linter.all false
namespace NuR
open PySem PySem.Spec PyProof.Rows L2
section
variable {P : Program} {w : World} {A : Around} {E : Value → Shared → Prop}
theorem and_loop {wk ak r : Addr} {S2 : Int → Bool} {n2 was : Nat} {id : String} (hwr : wk ≠ r) (har : ak ≠ r) : ∀ (l : List (Int × Value)) (D : List Int) (c : Nat) (s : Shared) (Q : PUnit → Shared → Prop), (∀ e ∈ l, GoodE e) → SetR w s.heap r (fun j => decide (j ∈ D) && S2 j) c → SetR w s.heap ak S2 n2 →
    (∃ o es t, s.heap.get? wk = some o ∧ o.data = .set es was t ∧ t.fits es.size = true) → D.length + l.length < scanBound →
    (∀ h' c', Heap.SameBut r s.heap h' → SetR w h' r (fun j => decide (j ∈ D ++ l.map keyOf) && S2 j) c' → Q PUnit.unit { s with heap := h' }) →
    wpAny (model P w) A (forIn l PUnit.unit fun x __s =>
      match x with
      | (h, x) => do
        holding [x] do
            let __do_lift ← setFind ak x h
            if __do_lift.isSome = true then do
                let _ ← setAddHashed r x h
                pure ()
              else pure ()
        Builtin.Frozenset.unchanged id wk was
        pure (ForInStep.yield PUnit.unit)) Q E s
  | [], D, c, s, Q, _, R, _, _, _, h => by
    rw [List.forIn_nil]
    refine wpAny_pure (h s.heap c (Heap.SameBut.refl r s.heap) (R.congr fun k => by simp))
  | (hs, v) :: l, D, c, s, Q, g, R, R2, hw, hsz, h => by
    obtain ⟨k, tk, e1, e2⟩ := g (hs, v) (by simp)
    simp only at e1 e2
    subst e1 e2
    rw [List.forIn_cons]
    have hc : c ≤ D.length := setR_card R fun j hj => by
      rw [Bool.and_eq_true] at hj
      exact of_decide_eq_true hj.1
    have hsz' : D.length + (l.length + 1) < scanBound := hsz
    have unch : ∀ (s' : Shared) (Q' : Unit → Shared → Prop), Heap.SameBut r s.heap s'.heap → Q' () s' → wpAny (model P w) A (Builtin.Frozenset.unchanged id wk was) Q' E s' := fun s' Q' sb q => by
      obtain ⟨o, es, t, ho, hd, hf⟩ := hw
      unfold Builtin.Frozenset.unchanged
      refine wpAny_bind (wpAny_setEpoch_of (ho := (sb.2 wk hwr).trans ho) hd hf ?_)
      refine wp_if_neg (by simp) ?_
      exact wpAny_pure q
    have go : ∀ (h' : Heap) (c' : Nat), Heap.SameBut r s.heap h' → SetR w h' r (fun j => decide (j ∈ D ++ [k]) && S2 j) c' → wpAny (model P w) A (forIn l PUnit.unit fun x __s =>
      match x with
      | (h, x) => do
        holding [x] do
            let __do_lift ← setFind ak x h
            if __do_lift.isSome = true then do
                let _ ← setAddHashed r x h
                pure ()
              else pure ()
        Builtin.Frozenset.unchanged id wk was
        pure (ForInStep.yield PUnit.unit)) Q E { s with heap := h' } := fun h' c' sb R' => by
      obtain ⟨o, es, t, ho, hd, hf⟩ := hw
      refine and_loop hwr har l (D ++ [k]) c' { s with heap := h' } Q (fun e he => g e (by simp [he])) R' (R2.at fun o e => (sb.2 ak har).trans e) ⟨o, es, t, (sb.2 wk hwr).trans ho, hd, hf⟩ (by rw [List.length_append]; show D.length + 1 + l.length < _; omega) fun h2 c2 sb2 R3 => ?_
      refine h h2 c2 (sb.trans sb2) (R3.congr fun j => ?_)
      show (decide (j ∈ D ++ ((hashInt k, Value.int k tk) :: l).map keyOf) && S2 j) = _
      rw [List.map_cons, show keyOf (hashInt k, Value.int k tk) = k from rfl, List.append_assoc]
      rfl
    refine wpAny_bind (wpAny_bind (wpAny_holding (wpAny_bind (wpAny_setFind_of (knd := intKind P w) (k := k) (intKind_is P w k tk) rfl R2.setOf fun res hres => ?_))))
    cases hS : S2 k with
    | true =>
      refine wp_if_pos (by rw [hres, hS]) ?_
      refine wpAny_bind (setR_add_hashed R (by omega) fun h' sb R' => wpAny_pure ?_)
      refine wpAny_bind (unch { s with heap := h' } _ sb (wpAny_pure ?_))
      refine go h' _ sb (R'.congr fun j => ?_)
      show (decide (j ∈ D ++ [k]) && S2 j) = (decide (j ∈ D) && S2 j || decide (j = k))
      by_cases q : j = k
      · subst q; simp [hS]
      · simp [q]
    | false =>
      refine wp_if_neg (by rw [hres, hS]; simp) (wpAny_pure ?_)
      refine wpAny_bind (unch s _ (Heap.SameBut.refl r s.heap) (wpAny_pure ?_))
      refine go s.heap c (Heap.SameBut.refl r s.heap) (R.congr fun j => ?_)
      show (decide (j ∈ D ++ [k]) && S2 j) = (decide (j ∈ D) && S2 j)
      by_cases q : j = k
      · subst q; simp [hS]
      · simp [q]
theorem and_sets {s : Shared} {a b : Addr} {S1 S2 : Int → Bool} {n1 n2 : Nat} {id : String} (hab : a ≠ b) (R1 : SetR w s.heap a S1 n1) (R2 : SetR w s.heap b S2 n2) {Q : Value → Shared → Prop}
    (h : ∀ h' c, SetR w h' s.heap.objs.size (fun j => S1 j && S2 j) c → (∀ x o, s.heap.get? x = some o → h'.get? x = some o) → Q (.ref s.heap.objs.size) { s with heap := h' }) : wpAny (model P w) A (Builtin.Frozenset.intersection id a (.ref b)) Q E s := by
  have ta : s.TypeIs (.ref a) "set" := by
    obtain ⟨o, es, ep, t, ho, hex, _⟩ := R1
    exact ⟨o, ho, hex.1⟩
  have la := R1.lt
  have lb := R2.lt
  unfold Builtin.Frozenset.intersection
  refine wp_if_neg (by intro z; exact hab (by simpa using (eq_of_beq z).symm)) ?_
  refine wpAny_bind ?_
  unfold Builtin.Frozenset.baseOf
  refine wpAny_bind (wpAny_isInstance ta F.sub_set_set (wpAny_pure ?_))
  rw [if_pos rfl]
  refine wpAny_bind (PpSet.newSet_ok ?_)
  refine wpAny_bind (wpAny_pure ?_)
  refine wpAny_bind (wpAny_holding ?_)
  have up : ∀ x o, s.heap.get? x = some o → (s.heap.push (mt w)).get? x = some o := fun x o e => Heap.get?_push_of_some _ e
  have R0 : SetR w (s.heap.push (mt w)) s.heap.objs.size (fun _ => false) 0 := setR_fresh w
  have R1' : SetR w (s.heap.push (mt w)) a S1 n1 := R1.at fun o e => up a o e
  have R2' : SetR w (s.heap.push (mt w)) b S2 n2 := R2.at fun o e => up b o e
  have tb : Shared.TypeIs { s with heap := s.heap.push (mt w) } (.ref b) "set" := by
    obtain ⟨o, es, ep, t, ho, hex, _⟩ := R2'
    exact ⟨o, ho, hex.1⟩
  have size : ∀ {x : Addr} {S : Int → Bool} {n : Nat} {Q' : Nat → Shared → Prop}, SetR w (s.heap.push (mt w)) x S n → Q' n { s with heap := s.heap.push (mt w) } → wpAny (model P w) A (Builtin.Frozenset.sizeOf x) Q' E { s with heap := s.heap.push (mt w) } := by
    intro x S n Q' R q
    obtain ⟨o, es, ep, t, ho, hex, hd, g, nd, hm, hb, hf, hn, hr, hl⟩ := R
    unfold Builtin.Frozenset.sizeOf
    refine wpAny_bind (wpAny_setEntries_of ho hd hf (wpAny_pure ?_))
    rw [hn]
    exact q
  -- the walk over x, the other asked
  have main : ∀ {x y : Addr} {Sx Sy : Int → Bool} {nx ny : Nat} {Q' : Unit → Shared → Prop}, x ≠ s.heap.objs.size → y ≠ s.heap.objs.size → SetR w (s.heap.push (mt w)) x Sx nx → SetR w (s.heap.push (mt w)) y Sy ny →
      (∀ h' c, SetR w h' s.heap.objs.size (fun j => Sx j && Sy j) c → (∀ x o, s.heap.get? x = some o → h'.get? x = some o) → Q' () { s with heap := h' }) →
      wpAny (model P w) A (do
        let was ← setEpoch x
        let __do_lift ← setWalkUnseen x [y, s.heap.objs.size] (some s.heap.objs.size)
        forIn __do_lift PUnit.unit fun z __s =>
          match z with
          | (h, z) => do
            holding [z] do
                let __do_lift ← setFind y z h
                if __do_lift.isSome = true then do
                    let _ ← setAddHashed s.heap.objs.size z h
                    pure ()
                  else pure ()
            Builtin.Frozenset.unchanged id x was
            pure (ForInStep.yield PUnit.unit)
        pure ()) Q' E { s with heap := s.heap.push (mt w) } := by
    intro x y Sx Sy nx ny Q' hx hy Rx Ry q
    have Rx' := Rx
    obtain ⟨o, es, ep, t, ho, hex, hd, g, nd, hm, hb, hf, hn, hr, hl⟩ := Rx'
    refine wpAny_bind (wpAny_setEpoch_of ho hd hf ?_)
    refine wpAny_bind (walkUnseen_at Rx Ry R0 fun arr h' g' nd' hm' sb R0' => ?_)
    rw [← Array.forIn_toList]
    have hsz : arr.toList.length < scanBound := by
      have := setR_card_ge Rx nd' fun j hj => (hm' j).mpr hj
      rw [List.length_map] at this
      omega
    refine wpAny_bind (and_loop (n2 := ny) hx hy arr.toList [] 0 { s with heap := h' } _ g' (R0'.congr fun k => by simp) (Ry.at fun o e => (sb.2 y hy).trans e) ⟨o, es, t, (sb.2 x hx).trans ho, hd, hf⟩ (by simpa using hsz) fun h2 c2 sb2 R3 => wpAny_pure ?_)
    refine q h2 c2 (R3.congr fun j => ?_) fun z oz e => ?_
    · show (Sx j && Sy j) = (decide (j ∈ [] ++ arr.toList.map keyOf) && Sy j)
      rw [List.nil_append]
      congr 1
      rw [Bool.eq_iff_iff, hm' j, decide_eq_true_iff]
    · have hz : z ≠ s.heap.objs.size := Nat.ne_of_lt (Heap.lt_size e)
      exact (sb2.2 z hz).trans ((sb.2 z hz).trans (up z oz e))
  refine wpAny_bind ?_
  unfold Builtin.Frozenset.isAnySet
  refine wpAny_bind (wpAny_isInstance tb F.sub_set_set ?_)
  refine wpAny_pure ?_
  refine wp_if_pos rfl ?_
  refine wpAny_bind (wpAny_pure ?_)
  refine wpAny_bind (size R2' (wpAny_bind (size R1' ?_)))
  have na : a ≠ s.heap.objs.size := Nat.ne_of_lt la
  have nb : b ≠ s.heap.objs.size := Nat.ne_of_lt lb
  by_cases c : n2 > n1
  · rw [if_pos c]
    exact main na nb R1' R2' fun h' c R k => wpAny_pure (h h' c R k)
  · rw [if_neg c]
    exact main nb na R2' R1' fun h' c R k => wpAny_pure (h h' c (R.congr fun j => Bool.and_comm _ _) k)
theorem entry_set_and : entryFor table "set.__and__" = some Builtin.«frozenset.__and__» :=
  entryFor_alias (id' := "frozenset.__and__") (by kernel_rfl) rfl (by decide +kernel) (by kernel_rfl)
theorem op_sets {s : Shared} {a b : Addr} {S1 S2 : Int → Bool} {n1 n2 : Nat} (hab : a ≠ b) (R1 : SetR w s.heap a S1 n1) (R2 : SetR w s.heap b S2 n2) {Q : Value → Shared → Prop}
    (h : ∀ h' c, SetR w h' s.heap.objs.size (fun j => S1 j && S2 j) c → (∀ x o, s.heap.get? x = some o → h'.get? x = some o) → Q (.ref s.heap.objs.size) { s with heap := h' }) : wpAny (model P w) A (binaryOp .BitAnd (.ref a) (.ref b)) Q E s := by
  have ta : s.TypeIs (.ref a) "set" := by
    obtain ⟨o, es, ep, t, ho, hex, _⟩ := R1
    exact ⟨o, ho, hex.1⟩
  have tb : s.TypeIs (.ref b) "set" := by
    obtain ⟨o, es, ep, t, ho, hex, _⟩ := R2
    exact ⟨o, ho, hex.1⟩
  refine wpAny_binaryOp_same ta tb F.fills_set_and F.slot_set_and (wpAny_call_entry F.slot_set_and ta entry_set_and ?_ (F.args_set_and_2 _ _))
  show wpAny (model P w) _ (do
    let (self, other) ← Builtin.Frozenset.slot1 "__and__" ⟨[.ref a, .ref b], []⟩
    let (l, r) := if false = true then (other, self) else (self, other)
    if !(← Builtin.Frozenset.isAnySet l <&&> Builtin.Frozenset.isAnySet r) then rule s!"frozenset.{"__and__"}.declined"; return ← ret .notImplemented
    ret (← Builtin.Frozenset.intersection s!"frozenset.{"__and__"}" (← Builtin.Frozenset.addrOf l) r)) _ _ s
  unfold Builtin.Frozenset.slot1 slotArgs
  simp only [List.isEmpty_nil, Bool.not_true, Bool.false_eq_true, ↓reduceIte, bind_assoc, List.length_nil, List.length_cons, Nat.zero_add, bne_self_eq_false, pure_bind]
  have any : ∀ {x : Addr} {Q' : Bool → Shared → Prop} {A' : Around} {E' : Value → Shared → Prop}, s.TypeIs (.ref x) "set" → Q' true s → wpAny (model P w) A' (Builtin.Frozenset.isAnySet (.ref x)) Q' E' s := by
    intro x Q' A' E' tx q
    unfold Builtin.Frozenset.isAnySet
    exact wpAny_bind (wpAny_isInstance tx F.sub_set_set (wpAny_pure q))
  refine wpAny_bind (wpAny_bind (any ta (show wpAny _ _ (Builtin.Frozenset.isAnySet (.ref b)) _ _ _ from any tb ?_)))
  refine wp_if_neg (by simp) ?_
  refine wpAny_bind (wpAny_pure (wpAny_bind (and_sets hab R1 R2 fun h' c R k => ?_)))
  exact wpAny_pure ⟨_, rfl, (by simp), h h' c R k⟩
end
section
variable {X : Cx}
/-- S & T, sets of whole numbers -/
def rAndS (w : World) : R2 := fun x y H Q => ∃ (a b : Addr) (S T : Int → Bool) (n m : Nat), x = .ref a ∧ y = .ref b ∧ a ≠ b ∧ H a = some (SetO w a S n) ∧ H b = some (SetO w b T m) ∧
  ∀ (p : Addr) (c : Nat), H p = none → (c = 0 ↔ ∀ j, (S j && T j) = false) → Q (.ref p) (upd H p (SetO w p (fun j => S j && T j) c))
theorem op_andS : OpR X (binaryOp .BitAnd) (rAndS X.w) := by
  intro pins s σ H x y v u Q I rx ry h
  obtain ⟨a, b, S, T, n, m, rfl, rfl, hab, ha, hb, q⟩ := h
  cases rx
  cases ry
  refine op_sets hab (setO_get I ha) (setO_get I hb) fun h' c R k => ?_
  refine ⟨.ref _, _, I.laid (t' := s.toks) (fun b o e => k b o e) (Nat.le_refl _) (setO_new R), rfl, q _ c (I.hok.fresh (Nat.le_refl _)) ?_⟩
  constructor
  · intro e j
    cases q : (S j && T j) with
    | false => rfl
    | true =>
      have := setR_card_ge R (M := [j]) (by simp) fun i hi => by rw [List.mem_singleton.mp hi]; exact q
      simp at this
      omega
  · intro e
    have := setR_card R (M := []) fun j hj => by
      rw [e j] at hj
      cases hj
    simpa using this
end
end NuR
end
/-! # NuP10 -/
section
set_option Elab.async false
set_option maxRecDepth 100000
set_option maxHeartbeats 4000000
set_option linter.all false
namespace NuP
open PySem PySem.Spec PyProof.Rows L2
theorem and_nats (a b : Nat) : Builtin.bitAnd (a : Int) (b : Int) = ((a &&& b : Nat) : Int) := PySem.W.os_band a b
theorem int_rise {ns : List Int} {r : List Nat} (h : ns.Pairwise (· < ·)) (hr : r.Pairwise (· < ·)) (m : ∀ k, k ∈ ns ↔ k ∈ r.map Int.ofNat) : ns = r.map Int.ofNat := by
  have e : (ns.map Int.toNat).map Int.ofNat = ns := by
    rw [List.map_map]
    refine (List.map_congr_left fun z hz => ?_).trans (map_self ns)
    obtain ⟨n, _, rfl⟩ := List.mem_map.mp ((m z).mp hz)
    rfl
  have e2 : ns.map Int.toNat = r := by
    refine Nu.rise_ext ?_ hr fun x => ?_
    · rw [List.pairwise_map]
      refine List.Pairwise.imp_of_mem (fun {a b} ha hb hab => ?_) h
      obtain ⟨n, _, rfl⟩ := List.mem_map.mp ((m a).mp ha)
      obtain ⟨n2, _, rfl⟩ := List.mem_map.mp ((m b).mp hb)
      simp at hab ⊢
      omega
    · rw [List.mem_map]
      constructor
      · rintro ⟨z, hz, rfl⟩
        obtain ⟨n, hn, rfl⟩ := List.mem_map.mp ((m z).mp hz)
        exact hn
      · intro hx
        exact ⟨_, (m (Int.ofNat x)).mpr (List.mem_map.mpr ⟨x, hx, rfl⟩), rfl⟩
  rw [← e, e2]
section
variable {P : Program} {w : World} {K : PySem.W.Frag} {mg : Str → Option Value} {base : Heap}
/-! ### beside_all -/
abbrev sBes : Stmt := inClass (top 20) 3
abbrev nBes : List Str := ["self", "conditions", "common", "condition"]
theorem scBes : FnScope nBes ["self", "conditions"] (defScope sBes) := ⟨rfl, rfl, rfl, by decide +kernel, rfl, by decide +kernel, by decide +kernel⟩
def spBes (CU : Addr) (K : PySem.W.Frag) : Sp := fun vs H Q _ => ∃ (x dx l bes : Addr) (fs : List (Str × V)) (cs B : List Nat), vs = [.ref x, .ref l] ∧ H x = some (.ins CU dx fs) ∧ Has fs "beside" (.ref bes) ∧ ListAt H bes B ∧ SqT K H l (nats cs) ∧ cs ≠ [] ∧ (∀ c, c ∈ cs → c < B.length) ∧ Q (natV (Nu.common B cs)) H
theorem ok_bes {CU f : Addr} {fd : FuncData} (F : Fun K "beside_all" "Unfolding.beside_all" sBes f fd) (TU : ClsT K mg "Unfolding" CU uN) : FnOk P w K mg base CX0 1 f fd ["self", "conditions"] (spBes CU K) := by
  refine F.ok scBes (fun vs H Q E h => ?_) (fun cdv A outer s H vs Q E hr h => ?_)
  · obtain ⟨x, dx, l, bes, fs, cs, B, rfl, _⟩ := h
    rfl
  · obtain ⟨x, dx, l, bes, fs, cs, B, rfl, hx, f1, gb, hl, hne, hlt, q⟩ := h
    refine ⟨_, pss_cons (ps_set (i := 2) scBes.nd rfl (Or.inl rfl) (pe_ix ix_list (pe_fld (pv 0) rfl) (pe_ix ix_tup (pv 1) pe_int (fun _ _ => rfl)) (fun _ _ => rfl)))
      (pss_cons (ps_for PassesOwn.never rfl (pi_tup (pv 1)) (pg_name (i := 3) scBes.nd rfl (Or.inl rfl)) (pss_one (ps_set (i := 2) scBes.nd rfl (Or.inl rfl) (pe_op op_and (pv 2) (pe_ix ix_list (pe_fld (pv 0) rfl) (pv 3) (fun _ _ => rfl))))))
      (pss_one (ps_ret (pv 2)))), ?_⟩
    cases cs with
    | nil => exact absurd rfl hne
    | cons a r =>
      have at_ : ∀ c, c ∈ a :: r → atI (nats B) (c : Int) = some (natV ((B[c]?).getD 0)) := fun c hc => by
        have h := hlt c hc
        rw [nats_getD h, List.getElem?_eq_getElem h]
        rfl
      refine ⟨_, rfl, x, CU, dx, fs, _, rfl, hx, TU.cl, TU.no _ (by decide +kernel), f1, _, rfl, l, _, _, natV a, rfl, rfl, hl, atI_nat (j := 0) rfl, bes, _, _, _, rfl, rfl, SqL.of gb, at_ a (by simp), ?_⟩
      refine ⟨_, rfl, l, rfl, ⟨_, hl⟩, for_tup (K := K) (a := l) (xs := nats (a :: r)) (fun i σ H' => H' = H ∧ ∃ v, σ = [some (.ref x), some (.ref l), some (natV (((a :: r).take i).foldl (fun s c => s &&& (B[c]?).getD 0) ((B[a]?).getD 0))), v]) ⟨rfl, none, rfl⟩ (fun i σ H' _ h => by rw [h.1]; exact hl) ?_ ?_⟩
      · rintro i y σ H' hi ⟨rfl, v, rfl⟩
        obtain ⟨n, hn, rfl⟩ := nats_get hi
        refine ⟨_, rfl, _, rfl, x, CU, dx, fs, _, rfl, hx, TU.cl, TU.no _ (by decide +kernel), f1, _, rfl, bes, _, _, _, rfl, rfl, SqL.of gb, at_ n (List.mem_of_getElem? hn), _, _, rfl, rfl, rfl, some (natV n), ?_⟩
        rw [take1 hn, List.foldl_append]
        dsimp only
        rw [and_nats]
        rfl
      · rintro σ H' ⟨rfl, v, rfl⟩
        rw [nats_len, List.take_length]
        exact ⟨_, rfl, q⟩
/-! ### needed_to_make -/
abbrev sNed : Stmt := inClass (top 20) 4
abbrev nNed : List Str := ["self", "conditions", "needed", "condition", "maker"]
theorem scNed : FnScope nNed ["self", "conditions"] (defScope sNed) := ⟨rfl, rfl, rfl, by decide +kernel, rfl, by decide +kernel, by decide +kernel⟩
/-- what is needed to make a condition -/
def Need (cd : List (Nat × Int)) (D : List EvD) (c x : Nat) : Prop := ∃ p e d, cd[c]? = some (p, ((e : Nat) : Int)) ∧ D[e]? = some d ∧ x ∈ d.needs
def spNed (CU CC CE : Addr) (K : PySem.W.Frag) : Sp := fun vs H Q _ => ∃ (x dx l cds evs : Addr) (kb : Bool) (fs : List (Str × V)) (ls r : List Nat) (cs es : List Addr) (cd : List (Nat × Int)) (D : List EvD), vs = [.ref x, .ref l] ∧ H x = some (.ins CU dx fs) ∧ Has fs "conditions" (.ref cds) ∧ Has fs "events" (.ref evs) ∧ NuR.SqB K kb H l (nats ls) ∧
  H cds = some (.lst (cs.map V.ref)) ∧ H evs = some (.lst (es.map V.ref)) ∧ AllAt (CdAt CC H) cs cd ∧ AllAt (EvAt CE H) es D ∧ ls.length ≤ 1000 ∧ (∀ d, d ∈ D → d.needs.length ≤ 100) ∧ (∀ c, c ∈ ls → ∃ p m, cd[c]? = some (p, m) ∧ (m = -1 ∨ ∃ e : Nat, m = (e : Int) ∧ e < D.length)) ∧
  r.Pairwise (· < ·) ∧ r.length < 64 ∧ (∀ z, z ∈ r ↔ ∃ c, c ∈ ls ∧ Need cd D c z) ∧ ∀ H' p, Same H H' → H p = none → ListAt H' p r → Q (.ref p) H'
theorem ok_ned {CU CC CE f : Addr} {fd : FuncData} {tk : Tok} (F : Fun K "needed_to_make" "Unfolding.needed_to_make" sNed f fd) (TU : ClsT K mg "Unfolding" CU uN) (TC : ClsT K mg "Condition" CC ["place", "maker"]) (TE : ClsT K mg "Event" CE evN) (gSor : mg "sorted" = none) (gSet : mg "set" = none) (gB : mg "FROM_THE_BEGINNING" = some (.int (-1) tk)) :
    FnOk P w K mg base CX0 1 f fd ["self", "conditions"] (spNed CU CC CE K) := by
  refine F.ok scNed (fun vs H Q E h => ?_) (fun cdv A outer s H vs Q E hr h => ?_)
  · obtain ⟨x, dx, l, cds, evs, kb, fs, ls, r, cs, es, cd, D, rfl, _⟩ := h
    rfl
  · obtain ⟨x, dx, l, cds, evs, kb, fs, ls, r, cs, es, cd, D, rfl, hx, f1, f2, hl, gc, ge, hC, hE, hls, hnd, hmk, rr, rl, rm, q⟩ := h
    refine ⟨_, pss_cons (ps_set (i := 2) scNed.nd rfl (Or.inl rfl) (pe_lst pa_nil))
      (pss_cons (ps_for PassesOwn.never rfl (NuR.pi_seq (pv 1)) (pg_name (i := 3) scNed.nd rfl (Or.inl rfl))
        (pss_cons (ps_set (i := 4) scNed.nd rfl (Or.inl rfl) (pe_fld (pe_ix ix_list (pe_fld (pv 0) rfl) (pv 3) (fun _ _ => rfl)) rfl))
        (pss_one (ps_if (pt_cmpR op_ne (pv 4) (pe_glob (v := .int (-1)) rfl gB ⟨_, rfl⟩) (nomark _)) (pss_one (ps_expr (pe_bm PySem.F.plainAttrs_list PySem.F.slot_list_extend PySem.F.type_list_extend mt_extend (pv 2) (pa_cons (pe_fld (pe_ix ix_list (pe_fld (pv 0) rfl) (pv 4) (fun _ _ => rfl)) rfl) pa_nil)))) pss_nil))))
      (pss_one (ps_ret (pe_callB (cr_sortedSet rfl) (by rfl) gSor (by decide +kernel) (pa_cons (pe_callTy (NuR.cr_setM rfl) (by rfl) gSet (by decide +kernel) (pa_cons (pv 2) pa_nil)) pa_nil))))), ?_⟩
    refine ⟨by show 0 ≤ sizeLine; decide, fun p np => ?_⟩
    refine ⟨_, rfl, l, kb, rfl, ⟨_, hl.same (snew (Same.refl _) np)⟩, NuR.for_seq (K := K) (b := kb) (a := l) (xs := nats ls) (fun i σ H' => Same H H' ∧ (∃ v3 v4, σ = [some (.ref x), some (.ref l), some (.ref p), v3, v4]) ∧ ∃ acc, ListAt H' p acc ∧ acc.length ≤ 100 * i ∧ ∀ z, z ∈ acc ↔ ∃ c, c ∈ ls.take i ∧ Need cd D c z) ⟨snew (Same.refl _) np, ⟨none, none, rfl⟩, [], upd_same, by simp, by simp⟩ (fun i σ H' _ h => hl.same h.1) ?_ ?_⟩
    · rintro i y σ H' hi ⟨s1, ⟨v3, v4, rfl⟩, acc, gp, hal, ham⟩
      obtain ⟨n, hn, rfl⟩ := nats_get hi
      have hil : i < ls.length := (List.getElem?_eq_some_iff.mp hn).1
      obtain ⟨pp, m, hm, hm2⟩ := hmk n (List.mem_of_getElem? hn)
      obtain ⟨ca, hca, dc, hc⟩ := hC.get hm
      refine ⟨_, rfl, x, CU, dx, fs, _, rfl, s1 _ _ hx, TU.cl, TU.no _ (by decide +kernel), f1, _, rfl, cds, _, _, V.ref ca, rfl, rfl, SqL.of (s1 _ _ gc), atI_nat (by rw [List.getElem?_map, hca]; rfl), ca, CC, dc, _, _, rfl, s1 _ _ hc, TC.cl, TC.no _ (by decide +kernel), look (ns := ["place", "maker"]) 1 rfl (by decide +kernel) rfl, ?_⟩
      refine ⟨_, rfl, rfl, _, rfl, ?_⟩
      rcases hm2 with rfl | ⟨e, rfl, he⟩
      · refine ite2 (fun c => absurd c (by simp [condF])) (fun _ => ⟨s1, ⟨_, _, rfl⟩, acc, gp, by omega, fun z => ?_⟩)
        rw [ham, take1 hn]
        constructor
        · rintro ⟨c, h1, h2⟩; exact ⟨c, by simp [h1], h2⟩
        · rintro ⟨c, h1, h2⟩
          rcases List.mem_append.mp h1 with h1 | h1
          · exact ⟨c, h1, h2⟩
          · rw [List.mem_singleton.mp h1] at h2
            obtain ⟨p', e', d', h3, _⟩ := h2
            rw [hm] at h3
            have := (Prod.mk.inj (Option.some.inj h3)).2
            omega
      · refine ite2 (fun _ => ?_) (fun c => absurd (by simp [condF]) c)
        have hd := List.getElem?_eq_getElem he
        obtain ⟨ea, hea, de, us, md, nd, mk, g1, g2, g3, g4, g5⟩ := hE.get hd
        have hp : p ≠ nd := fun z => by
          have g4 : H nd = _ := g4
          rw [← z, np] at g4
          cases g4
        refine ⟨_, rfl, .inl ⟨rfl, _, SqL.of gp⟩, _, rfl, x, CU, dx, fs, _, rfl, s1 _ _ hx, TU.cl, TU.no _ (by decide +kernel), f2, _, rfl, evs, _, (e : Int), V.ref ea, rfl, rfl, SqL.of (s1 _ _ ge), atI_nat (by rw [List.getElem?_map, hea]; rfl), ea, CE, de, _, _, rfl, s1 _ _ g1, TE.cl, TE.no _ (by decide +kernel), look (ns := evN) 3 rfl (by decide +kernel) rfl, p, nd, _, _, rfl, rfl, gp, s1 _ _ g4, ?_, ?_⟩
        · rw [nats_len, nats_len]
          have := hnd _ (List.getElem_mem he)
          exact Nat.le_trans (show _ ≤ 200000 by omega) (by decide)
        · refine ⟨Same.upd' s1 np, ⟨_, _, rfl⟩, acc ++ D[e].needs, upd_same.trans (by rw [nats_app]), ?_, fun z => ?_⟩
          · have := hnd _ (List.getElem_mem he)
            rw [List.length_append]
            omega
          · rw [List.mem_append, ham, take1 hn]
            constructor
            · rintro (⟨c, h1, h2⟩ | h)
              · exact ⟨c, by simp [h1], h2⟩
              · exact ⟨n, by simp, pp, e, _, hm, hd, h⟩
            · rintro ⟨c, h1, h2⟩
              rcases List.mem_append.mp h1 with h1 | h1
              · exact .inl ⟨c, h1, h2⟩
              · rw [List.mem_singleton.mp h1] at h2
                obtain ⟨p', e', d', h3, h4, h5⟩ := h2
                rw [hm] at h3
                have : e = e' := by have := (Prod.mk.inj (Option.some.inj h3)).2; omega
                subst this
                rw [hd] at h4
                cases h4
                exact .inr h5
    · rintro σ H' ⟨s1, ⟨v3, v4, rfl⟩, acc, gp, hal, ham⟩
      rw [nats_len, List.take_length] at ham
      rw [nats_len] at hal
      refine ⟨_, rfl, p, acc.map Int.ofNat, r.map Int.ofNat, rfl, SqL.of (by rw [show H' p = _ from gp, nats_ints]), (fun j hj => ?_), ?_, fun p2 c n2 hc _ => ?_⟩
      · obtain ⟨z, hz, rfl⟩ := List.mem_map.mp hj
        exact List.mem_map.mpr ⟨z, (rm z).mpr ((ham z).mp hz), rfl⟩
      · rw [List.length_map]
        exact Nat.lt_of_le_of_lt (show _ ≤ 65 by omega) (by decide)
      refine ⟨p2, _, c, rfl, upd_same, ?_, fun ns p3 sr mem hlen n3 => ?_⟩
      · have := hc (r.map Int.ofNat) fun j hj => by
          obtain ⟨z, hz, rfl⟩ := List.mem_map.mp hj
          exact List.mem_map.mpr ⟨z, (rm z).mpr ((ham z).mp hz), rfl⟩
        rw [List.length_map] at this
        omega
      · have e : ns.map V.int = nats r := by
          rw [nats_ints]
          refine congrArg (List.map V.int) (int_rise sr (r := r) rr fun k => ?_)
          rw [mem, decide_eq_true_iff, List.mem_map, List.mem_map]
          constructor
          · rintro ⟨z, hz, rfl⟩; exact ⟨z, (rm z).mpr ((ham z).mp hz), rfl⟩
          · rintro ⟨z, hz, rfl⟩; exact ⟨z, (ham z).mpr ((rm z).mp hz), rfl⟩
        refine q _ p3 (snew (snew s1 n2) n3) ((snew s1 n2).free n3) ?_
        show upd _ p3 _ p3 = _
        rw [upd_same, e]
end
end NuP
end
/-! # NuP11 -/
section
set_option Elab.async false
set_option maxRecDepth 100000
set_option maxHeartbeats 4000000
set_option linter.all false
namespace NuP
open PySem PySem.Spec PyProof.Rows L2
/-! ### a dict of some numbers -/
abbrev nk (c : Nat) : Key := Sum.inl (c : Int)
theorem nk_inj {a b : Nat} (h : nk a = nk b) : a = b := by
  have := Sum.inl.inj h
  omega
def kvD (T : List Nat) : List (Key × V) := T.map fun c => (nk c, V.bl true)
theorem kvD_any (T : List Nat) (c : Nat) : ((kvD T).any fun kv => decide (kv.1 = nk c)) = decide (c ∈ T) := by
  unfold kvD
  rw [List.any_map, Bool.eq_iff_iff, List.any_eq_true, decide_eq_true_iff]
  constructor
  · rintro ⟨z, h1, h2⟩
    rw [← nk_inj (of_decide_eq_true h2)]
    exact h1
  · intro h
    exact ⟨c, h, decide_eq_true rfl⟩
theorem kvD_put (T : List Nat) (c : Nat) : putK (kvD T) (nk c) (.bl true) = kvD (if c ∈ T then T else T ++ [c]) := by
  unfold putK
  rw [kvD_any]
  by_cases h : c ∈ T
  · rw [if_pos (decide_eq_true h), if_pos h]
    unfold kvD
    rw [List.map_map]
    refine List.map_congr_left fun z _ => ?_
    show (if nk z = nk c then (nk z, V.bl true) else (nk z, V.bl true)) = _
    split <;> rfl
  · rw [if_neg (by rw [decide_eq_false h]; exact Bool.false_ne_true), if_neg h]
    unfold kvD
    rw [List.map_append]
    rfl
theorem kvD_val {T : List Nat} {c : Nat} (h : c ∈ T) : valV (kvD T) (nk c) = some (.bl true) := by
  have h1 : (valV (kvD T) (nk c)).isSome = true := by rw [← valV_any, kvD_any]; exact decide_eq_true h
  cases e : valV (kvD T) (nk c) with
  | none => rw [e] at h1; cases h1
  | some v =>
    unfold valV at e
    obtain ⟨kv, h2, rfl⟩ := Option.map_eq_some_iff.mp e
    have := List.mem_of_find?_eq_some h2
    obtain ⟨z, _, rfl⟩ := List.mem_map.mp this
    rfl
theorem kvD_drop (T : List Nat) (c : Nat) : dropK (kvD T) (nk c) = kvD (T.filter fun z => decide (z ≠ c)) := by
  unfold dropK kvD
  rw [List.filter_map]
  refine congrArg (List.map _) (List.filter_congr fun z _ => ?_)
  show decide (nk z ≠ nk c) = decide (z ≠ c)
  rw [decide_eq_decide]
  exact ⟨fun h e => h (by rw [e]), fun h e => h (nk_inj e)⟩
theorem kvD_len (T : List Nat) : (kvD T).length = T.length := List.length_map ..
def usedD (D : List EvD) (e : Nat) : List Nat := ((D[e]?).map fun d => d.used).getD []
def madeD (D : List EvD) (e : Nat) : List Nat := ((D[e]?).map fun d => d.made).getD []
def placeD (cd : List (Nat × Int)) (c : Nat) : Nat := ((cd[c]?).map fun d => d.1).getD 0
theorem usedD_at {D : List EvD} {e : Nat} {d : EvD} (h : D[e]? = some d) : usedD D e = d.used := by unfold usedD; rw [h]; rfl
theorem madeD_at {D : List EvD} {e : Nat} {d : EvD} (h : D[e]? = some d) : madeD D e = d.made := by unfold madeD; rw [h]; rfl
/-- at d some numbers below n: those of M -/
structure InD (H : Hp) (d : Addr) (n : Nat) (M : Nat → Prop) (T : List Nat) (H' : Hp) : Prop where
  same : Same H H'
  at_ : H' d = some (.dK (kvD T))
  nd : T.Nodup
  mem : ∀ c, c ∈ T ↔ M c
  lt : ∀ c, M c → c < n
theorem InD.size {H : Hp} {d : Addr} {n : Nat} {M : Nat → Prop} {T : List Nat} {H' : Hp} (h : InD H d n M T H') (hn : n ≤ 1000) : (kvD T).length < sizeLine := by
  rw [kvD_len]
  have := Nu.nodup_sub_len h.nd (L := List.range n) fun c hc => List.mem_range.mpr (h.lt c ((h.mem c).mp hc))
  rw [List.length_range] at this
  exact small1000 (by omega)
theorem InD.put {H : Hp} {d : Addr} {n c : Nat} {M M' : Nat → Prop} {T : List Nat} {H' : Hp} (h : InD H d n M T H') (nd : H d = none) (hc : c < n) (hM : ∀ z, M' z ↔ M z ∨ z = c) : InD H d n M' (if c ∈ T then T else T ++ [c]) (upd H' d (.dK (putK (kvD T) (nk c) (.bl true)))) where
  same := Same.upd' h.same nd
  at_ := by rw [upd_same, kvD_put]
  nd := by
    split
    · exact h.nd
    · next q =>
      rw [List.nodup_append]
      refine ⟨h.nd, by simp, fun a ha b hb e => ?_⟩
      rw [List.mem_singleton.mp hb] at e
      exact q (e ▸ ha)
  mem := fun z => by
    rw [hM]
    split
    · next q =>
      rw [h.mem]
      exact ⟨Or.inl, fun k => k.elim id fun e => by rw [e]; exact (h.mem c).mp q⟩
    · rw [List.mem_append, List.mem_singleton, h.mem]
  lt := fun z hz => by
    rcases (hM z).mp hz with k | rfl
    · exact h.lt z k
    · exact hc
theorem InD.pop {H : Hp} {d : Addr} {n c : Nat} {M M' : Nat → Prop} {T : List Nat} {H' : Hp} (h : InD H d n M T H') (nd : H d = none) (hM : ∀ z, M' z ↔ M z ∧ z ≠ c) : InD H d n M' (T.filter fun z => decide (z ≠ c)) (upd H' d (.dK (dropK (kvD T) (nk c)))) where
  same := Same.upd' h.same nd
  at_ := by rw [upd_same, kvD_drop]
  nd := List.Nodup.sublist List.filter_sublist h.nd
  mem := fun z => by rw [hM, List.mem_filter, h.mem, decide_eq_true_iff]
  lt := fun z hz => h.lt z ((hM z).mp hz).1
theorem InD.iff {H : Hp} {d : Addr} {n : Nat} {M M' : Nat → Prop} {T : List Nat} {H' : Hp} (h : InD H d n M T H') (hM : ∀ z, M' z ↔ M z) : InD H d n M' T H' := ⟨h.same, h.at_, h.nd, fun c => (h.mem c).trans (hM c).symm, fun c hc => h.lt c ((hM c).mp hc)⟩
section
variable {P : Program} {w : World} {K : PySem.W.Frag} {mg : Str → Option Value} {base : Heap}
abbrev sMrk : Stmt := inClass (top 20) 8
abbrev nMrk : List Str := ["self", "events", "there", "condition", "event"]
theorem scMrk : FnScope nMrk ["self", "events"] (defScope sMrk) := ⟨rfl, rfl, rfl, by decide +kernel, rfl, by decide +kernel, by decide +kernel⟩
def spMrk (CU CC CE : Addr) (K : PySem.W.Frag) : Sp := fun vs H Q _ => ∃ (x dx l cds evs fst : Addr) (kb : Bool) (fs : List (Str × V)) (ls fl mk : List Nat) (cs es : List Addr) (cd : List (Nat × Int)) (D : List EvD), vs = [.ref x, .ref l] ∧ H x = some (.ins CU dx fs) ∧ Has fs "conditions" (.ref cds) ∧ Has fs "events" (.ref evs) ∧ Has fs "first_conditions" (.ref fst) ∧
  NuR.SqB K kb H l (nats ls) ∧ ListAt H fst fl ∧ H cds = some (.lst (cs.map V.ref)) ∧ H evs = some (.lst (es.map V.ref)) ∧ AllAt (CdAt CC H) cs cd ∧ AllAt (EvAt CE H) es D ∧ cd.length ≤ 1000 ∧ (∀ e, e ∈ ls → e < D.length) ∧ (∀ c, c ∈ fl ∨ c ∈ ls.flatMap (madeD D) → c < cd.length) ∧
  (ls.flatMap (usedD D)).Nodup ∧ (∀ c, c ∈ ls.flatMap (usedD D) → c ∈ fl ∨ c ∈ ls.flatMap (madeD D)) ∧
  (∀ T r : List Nat, T.Nodup → (∀ c, c ∈ T ↔ (c ∈ fl ∨ c ∈ ls.flatMap (madeD D)) ∧ c ∉ ls.flatMap (usedD D)) → r.Perm (T.map (placeD cd)) → r.Pairwise (· ≤ ·) → r = mk) ∧ ∀ H' p, Same H H' → H p = none → TupAt H' p mk → Q (.ref p) H'
theorem ok_mrk {CU CC CE f : Addr} {fd : FuncData} (F : Fun K "marking_behind" "Unfolding.marking_behind" sMrk f fd) (TU : ClsT K mg "Unfolding" CU uN) (TC : ClsT K mg "Condition" CC ["place", "maker"]) (TE : ClsT K mg "Event" CE evN) (gSor : mg "sorted" = none) (gTup : mg "tuple" = none) :
    FnOk P w K mg base CX0 1 f fd ["self", "events"] (spMrk CU CC CE K) := by
  refine F.ok scMrk (fun vs H Q E h => ?_) (fun cdv A outer s H vs Q E hr h => ?_)
  · obtain ⟨x, dx, l, cds, evs, fst, kb, fs, ls, fl, mk, cs, es, cd, D, rfl, _⟩ := h
    rfl
  · obtain ⟨x, dx, l, cds, evs, fst, kb, fs, ls, fl, mk, cs, es, cd, D, rfl, hx, f1, f2, f3, hl, gf, gc, ge, hC, hE, h1000, hlt, hcl, und, usub, huniq, q⟩ := h
    have hu := hu_of hr
    refine ⟨_, pss_cons (ps_set (i := 2) scMrk.nd rfl (Or.inl rfl) pe_dnewK)
      (pss_cons (ps_for PassesOwn.never rfl (pi_list (pe_fld (pv 0) rfl)) (pg_name (i := 3) scMrk.nd rfl (Or.inl rfl)) (pss_one (ps_dput hu (pv 2) (pv 3) pe_bl rfl)))
      (pss_cons (ps_for PassesOwn.never rfl (NuR.pi_seq (pv 1)) (pg_name (i := 4) scMrk.nd rfl (Or.inl rfl)) (pss_one (ps_for PassesOwn.never rfl (pi_list (pe_fld (pe_ix ix_list (pe_fld (pv 0) rfl) (pv 4) (fun _ _ => rfl)) rfl)) (pg_name (i := 3) scMrk.nd rfl (Or.inl rfl)) (pss_one (ps_dput hu (pv 2) (pv 3) pe_bl rfl)))))
      (pss_cons (ps_for PassesOwn.never rfl (NuR.pi_seq (pv 1)) (pg_name (i := 4) scMrk.nd rfl (Or.inl rfl)) (pss_one (ps_for PassesOwn.never rfl (pi_tup (pe_fld (pe_ix ix_list (pe_fld (pv 0) rfl) (pv 4) (fun _ _ => rfl)) rfl)) (pg_name (i := 3) scMrk.nd rfl (Or.inl rfl)) (pss_one (ps_expr (pe_dpop1 (pv 2) (pv 3) ⟨rfl, rfl, rfl, rfl⟩))))))
      (pss_one (ps_ret (pe_callTy call_tuple_of (by rfl) gTup (by decide +kernel) (pa_cons (pe_callB cr_sortedI (by rfl) gSor (by decide +kernel) (pa_cons (pe_lock (pe_lc (own := [("condition", 3)]) (g := gName 3) (tt := tYes) (te := tFld K (tOp (rIxL K) (tFld K (tVar 0) "conditions") (tVar 3)) "place") rfl scMrk.nd (pi_keys (pv 2)) (blkOk_by (own := [("condition", 3)]) (N := nMrk) (sc := defScope sMrk) (by decide +kernel))
        (fun _ _ _ _ _ => pg_name (i := 3) scMrk.nd rfl (Or.inl rfl)) (fun _ _ _ _ _ => pts_nil) (fun _ _ _ _ _ => pe_fld (pe_ix ix_list (pe_fld (pv 0) rfl) (pv 3) (fun _ _ => rfl)) rfl))) pa_nil)) pa_nil))))))), ?_⟩
    intro d nd
    have hE2 : ∀ (i e : Nat), ls[i]? = some e → ∃ z ea, D[e]? = some z ∧ es[e]? = some ea ∧ EvAt CE H ea z := fun i e he => by
      have h := hlt e (List.mem_of_getElem? he)
      obtain ⟨ea, h1, h2⟩ := hE.get (List.getElem?_eq_getElem h)
      exact ⟨_, ea, List.getElem?_eq_getElem h, h1, h2⟩
    have i0 : InD H d cd.length (fun c => c ∈ fl.take 0) [] (upd H d (.dK [])) := ⟨snew (Same.refl _) nd, upd_same, List.nodup_nil, by simp, by simp⟩
    refine ⟨_, rfl, x, CU, dx, fs, _, rfl, i0.same _ _ hx, TU.cl, TU.no _ (by decide +kernel), f3, fst, rfl, ⟨_, SqL.of (i0.same _ _ gf)⟩, for_list (K := K) (a := fst) (xs := nats fl) (fun i σ H' => (∃ v, σ = [some (.ref x), some (.ref l), some (.ref d), v, none]) ∧ ∃ T, InD H d cd.length (fun c => c ∈ fl.take i) T H') ⟨⟨none, rfl⟩, [], i0⟩ (fun i σ H' _ ⟨_, T, h⟩ => SqL.of (h.same _ _ gf)) ?_ ?_⟩
    · rintro i y σ H' hi ⟨⟨v, rfl⟩, T, hT⟩
      obtain ⟨n, hn, rfl⟩ := nats_get hi
      exact ⟨_, rfl, _, rfl, d, _, rfl, DPut.k (k := nk n) hT.at_ (hT.size h1000), ⟨_, rfl⟩, _, hT.put nd (hcl n (Or.inl (List.mem_of_getElem? hn))) fun z => by rw [take1 hn, List.mem_append, List.mem_singleton]⟩
    rintro σ H1 ⟨⟨v, rfl⟩, T1, h1⟩
    rw [nats_len, List.take_length] at h1
    -- what they make
    refine ⟨_, rfl, l, kb, rfl, ⟨_, hl.same h1.same⟩, NuR.for_seq (K := K) (b := kb) (a := l) (xs := nats ls) (fun i σ H' => (∃ v w, σ = [some (.ref x), some (.ref l), some (.ref d), v, w]) ∧ ∃ T, InD H d cd.length (fun c => c ∈ fl ∨ c ∈ (ls.take i).flatMap (madeD D)) T H') ⟨⟨_, _, rfl⟩, T1, h1.iff fun z => by simp⟩ (fun i σ H' _ ⟨_, T, h⟩ => hl.same h.same) ?_ ?_⟩
    · rintro i y σ H2 hi ⟨⟨v, w, rfl⟩, T2, h2⟩
      obtain ⟨e, he, rfl⟩ := nats_get hi
      obtain ⟨z, ea, hz, hea, dx2, us, md, nd2, mk2, g1, g2, g3, g4, g5⟩ := hE2 i e he
      refine ⟨_, rfl, x, CU, dx, fs, _, rfl, h2.same _ _ hx, TU.cl, TU.no _ (by decide +kernel), f2, _, rfl, evs, _, _, V.ref ea, rfl, rfl, SqL.of (h2.same _ _ ge), atI_nat (by rw [List.getElem?_map, hea]; rfl), ea, CE, dx2, _, _, rfl, h2.same _ _ g1, TE.cl, TE.no _ (by decide +kernel), look (ns := evN) 2 rfl (by decide +kernel) rfl, md, rfl, ⟨_, SqL.of (h2.same _ _ g3)⟩, ?_⟩
      refine for_list (K := K) (a := md) (xs := nats z.made) (fun j σ H' => (∃ v w, σ = [some (.ref x), some (.ref l), some (.ref d), v, w]) ∧ ∃ T, InD H d cd.length (fun c => (c ∈ fl ∨ c ∈ (ls.take i).flatMap (madeD D)) ∨ c ∈ z.made.take j) T H') ⟨⟨_, _, rfl⟩, T2, h2.iff fun z => by simp⟩ (fun i σ H' _ ⟨_, T, h⟩ => SqL.of (h.same _ _ g3)) ?_ ?_
      · rintro j y σ H3 hj ⟨⟨v, w, rfl⟩, T3, h3⟩
        obtain ⟨n, hn, rfl⟩ := nats_get hj
        refine ⟨_, rfl, _, rfl, d, _, rfl, DPut.k (k := nk n) h3.at_ (h3.size h1000), ⟨_, _, rfl⟩, _, h3.put nd (hcl n (Or.inr ?_)) fun z => by rw [take1 hn, List.mem_append, List.mem_singleton]; exact or_assoc.symm⟩
        exact List.mem_flatMap.mpr ⟨e, List.mem_of_getElem? he, by rw [madeD_at hz]; exact List.mem_of_getElem? hn⟩
      · rintro σ H3 ⟨⟨v, w, rfl⟩, T3, h3⟩
        rw [nats_len, List.take_length] at h3
        exact ⟨⟨_, _, rfl⟩, T3, h3.iff fun c => by rw [take1 he, List.flatMap_append, List.mem_append, List.flatMap_singleton, madeD_at hz, or_assoc]⟩
    rintro σ H4 ⟨⟨v4, w4, rfl⟩, T4, h4⟩
    rw [nats_len, List.take_length] at h4
    -- what they use
    refine ⟨_, rfl, l, kb, rfl, ⟨_, hl.same h4.same⟩, NuR.for_seq (K := K) (b := kb) (a := l) (xs := nats ls) (fun i σ H' => (∃ v w, σ = [some (.ref x), some (.ref l), some (.ref d), v, w]) ∧ ∃ T, InD H d cd.length (fun c => (c ∈ fl ∨ c ∈ ls.flatMap (madeD D)) ∧ c ∉ (ls.take i).flatMap (usedD D)) T H') ⟨⟨_, _, rfl⟩, T4, h4.iff fun z => by simp⟩ (fun i σ H' _ ⟨_, T, h⟩ => hl.same h.same) ?_ ?_⟩
    · rintro i y σ H2 hi ⟨⟨v, w, rfl⟩, T2, h2⟩
      obtain ⟨e, he, rfl⟩ := nats_get hi
      obtain ⟨z, ea, hz, hea, dx2, us, md, nd2, mk2, g1, g2, g3, g4, g5⟩ := hE2 i e he
      have split : ls.flatMap (usedD D) = (ls.take i).flatMap (usedD D) ++ (z.used ++ (ls.drop (i + 1)).flatMap (usedD D)) := by
        have e1 : ls = ls.take i ++ e :: ls.drop (i + 1) := by
          obtain ⟨hil, rfl⟩ := List.getElem?_eq_some_iff.mp he
          rw [List.getElem_cons_drop, List.take_append_drop]
        conv => lhs; rw [e1]
        rw [List.flatMap_append, List.flatMap_cons, usedD_at hz]
      refine ⟨_, rfl, x, CU, dx, fs, _, rfl, h2.same _ _ hx, TU.cl, TU.no _ (by decide +kernel), f2, _, rfl, evs, _, _, V.ref ea, rfl, rfl, SqL.of (h2.same _ _ ge), atI_nat (by rw [List.getElem?_map, hea]; rfl), ea, CE, dx2, _, _, rfl, h2.same _ _ g1, TE.cl, TE.no _ (by decide +kernel), look (ns := evN) 1 rfl (by decide +kernel) rfl, us, rfl, ⟨_, SqT.of (h2.same _ _ g2)⟩, ?_⟩
      refine for_tup (K := K) (a := us) (xs := nats z.used) (fun j σ H' => (∃ v w, σ = [some (.ref x), some (.ref l), some (.ref d), v, w]) ∧ ∃ T, InD H d cd.length (fun c => ((c ∈ fl ∨ c ∈ ls.flatMap (madeD D)) ∧ c ∉ (ls.take i).flatMap (usedD D)) ∧ c ∉ z.used.take j) T H') ⟨⟨_, _, rfl⟩, T2, h2.iff fun z => by simp⟩ (fun i σ H' _ ⟨_, T, h⟩ => SqT.of (h.same _ _ g2)) ?_ ?_
      · rintro j y σ H3 hj ⟨⟨v, w, rfl⟩, T3, h3⟩
        obtain ⟨n, hn, rfl⟩ := nats_get hj
        have und' := und
        rw [split, List.nodup_append] at und'
        have nz := (List.nodup_append.mp und'.2.1).1
        have hin : n ∈ T3 := by
          rw [h3.mem]
          refine ⟨⟨usub n ?_, fun q => ?_⟩, fun q => ?_⟩
          · rw [split]
            simp [List.mem_of_getElem? hn]
          · exact und'.2.2 n q n (by simp [List.mem_of_getElem? hn]) rfl
          · obtain ⟨k, hk⟩ := List.mem_iff_getElem?.mp q
            have hkj : k < j := by
              have := (List.getElem?_eq_some_iff.mp hk).1
              rw [List.length_take] at this
              omega
            rw [List.getElem?_take_of_lt hkj] at hk
            have := nd_ix nz hk hn
            omega
        refine ⟨_, rfl, d, rfl, .inl ⟨_, .inl h3.at_⟩, _, rfl, _, nk n, _, h3.at_, rfl, kvD_val hin, ⟨_, _, rfl⟩, _, h3.pop nd fun c => ?_⟩
        rw [take1 hn, List.mem_append, List.mem_singleton, not_or, ← and_assoc]
      · rintro σ H3 ⟨⟨v, w, rfl⟩, T3, h3⟩
        rw [nats_len, List.take_length] at h3
        exact ⟨⟨_, _, rfl⟩, T3, h3.iff fun c => by rw [take1 he, List.flatMap_append, List.mem_append, List.flatMap_singleton, usedD_at hz, not_or, ← and_assoc]⟩
    rintro σ H5 ⟨⟨v5, w5, rfl⟩, T5, h5⟩
    rw [nats_len, List.take_length] at h5
    refine ⟨d, _, h5.at_, trivial, fun od => ?_⟩
    have sL : Same H (upd H5 d (.frz od (.dK (kvD T5)))) := Same.upd' h5.same nd
    refine ⟨_, rfl, d, od, rfl, .inl ⟨_, upd_same, fun Dl hD => ?_⟩⟩
    refine lc_pure (walk_keys (d := d) (o := od) (kvs := kvD T5)) (xv := fun j => natV (T5.getD j 0)) ?_ (p := fun _ => true) (f := fun j => natV (placeD cd (T5.getD j 0))) hD (Nat.le_of_lt (h5.size h1000)) (fun H s2 => s2 _ _ upd_same) (fun x => rfl) (fun j H Q _ _ h => h) (fun j H2 Q2 hj _ s2 h => ?_) fun H6 s6 g6 => ?_
    · rintro j H x H' hj ⟨rfl, k, v, hk, rfl⟩
      unfold kvD at hk
      rw [List.getElem?_map] at hk
      obtain ⟨c, hc, he⟩ := Option.map_eq_some_iff.mp hk
      cases he
      refine ⟨rfl, ?_⟩
      rw [List.getD_eq_getElem?_getD, hc]
      rfl
    · rw [kvD_len] at hj
      have hTj : T5.getD j 0 = T5[j] := by rw [List.getD_eq_getElem?_getD, List.getElem?_eq_getElem hj]; rfl
      have hcl2 := h5.lt _ ((h5.mem _).mp (List.getElem_mem hj))
      obtain ⟨ca, hca, dc, hc⟩ := hC.get (List.getElem?_eq_getElem hcl2)
      rw [hTj] at h ⊢
      have ep : placeD cd T5[j] = (cd[T5[j]]).1 := by unfold placeD; rw [List.getElem?_eq_getElem hcl2]; rfl
      rw [ep] at h
      exact ⟨_, rfl, x, CU, dx, fs, _, rfl, s2 _ _ (sL _ _ hx), TU.cl, TU.no _ (by decide +kernel), f1, _, rfl, cds, _, _, V.ref ca, rfl, rfl, SqL.of (s2 _ _ (sL _ _ gc)), atI_nat (by rw [List.getElem?_map, hca]; rfl), ca, CC, dc, _, _, rfl, s2 _ _ (sL _ _ hc), TC.cl, TC.no _ (by decide +kernel), look (ns := ["place", "maker"]) 0 rfl (by decide +kernel) rfl, h⟩
    · rw [filter_yes, kvD_len, range_map T5 (fun c => natV (placeD cd c)) _ (fun j c hc => by rw [List.getD_eq_getElem?_getD, hc]; rfl)] at g6
      have hDd : Dl ≠ d := fun e => by
        rw [e, upd_same] at hD
        cases hD
      have s7 : Same H (upd H6 d (.dK (kvD T5))) := Same.upd' (sL.trans s6) nd
      refine ⟨s6 _ _ upd_same, Dl, (T5.map (placeD cd)).map Int.ofNat, rfl, SqL.of ((upd_ne hDd).trans (by rw [g6, ← nats_ints, nats, List.map_map]; rfl)), fun ns p3 pm sr n3 => ?_⟩
      obtain ⟨r, er, pr, sr'⟩ := perm_nats pm sr
      refine ⟨p3, nats r, rfl, .inl ⟨SqL.of (upd_same.trans (by rw [er])), fun p4 n4 => ?_⟩⟩
      refine q _ p4 (snew (snew s7 n3) n4) ((snew s7 n3).free n4) ?_
      show upd _ p4 _ p4 = _
      rw [upd_same, huniq T5 r h5.nd h5.mem pr sr']
end
end NuP
end
/-! # NuP12 -/
section
set_option Elab.async false
set_option maxRecDepth 100000
set_option maxHeartbeats 4000000
set_option linter.all false
namespace NuP
open PySem PySem.Spec PyProof.Rows L2
def pd (l : List Nat) : PyData := .tuple ((l.map Int.ofNat).map PyData.int)
theorem dp_ints {K : PySem.W.Frag} {H : Hp} : ∀ l : List Nat, DpAll K H (nats l) ((l.map Int.ofNat).map PyData.int)
  | [] => .nil
  | a :: l => .cons (.int _) (dp_ints l)
theorem dp_tup {K : PySem.W.Frag} {H : Hp} {a : Addr} {l : List Nat} (h : TupAt H a l) : Dp K H (.ref a) (pd l) := .tup (SqT.of h) (dp_ints l)
theorem pd_shaped (l : List Nat) : SeqAt.shaped (pd l) = true := by
  show ((pd l).canLay0 && decide ((pd l).depth ≤ 64)) = true
  rw [Bool.and_eq_true]
  refine ⟨by unfold pd; simp only [PyData.canLay0]; exact NuR.ints_lay _, decide_eq_true ?_⟩
  unfold pd
  simp only [PyData.depth, NuR.ints_depth]
  omega
theorem pd_eqv (a b : List Nat) : PyData.eqv (pd a) (pd b) = (a == b) := by
  unfold pd
  simp only [PyData.eqv, NuR.ints_eqv]
  rw [Bool.eq_iff_iff, decide_eq_true_iff, beq_iff_eq]
  constructor
  · intro h
    have := congrArg (List.map Int.toNat) h
    rw [List.map_map, List.map_map] at this
    exact ((map_self a).symm.trans (List.map_congr_left fun n _ => rfl)).trans (this.trans ((List.map_congr_left fun n _ => rfl).trans (map_self b)))
  · rintro rfl; rfl
section
variable {P : Program} {w : World} {K : PySem.W.Frag} {mg : Str → Option Value} {base : Heap}
abbrev sNew : Stmt := inClass (top 20) 9
abbrev nNew : List Str := ["self", "event", "fewer", "other"]
theorem scNew : FnScope nNew ["self", "event"] (defScope sNew) := ⟨rfl, rfl, rfl, by decide +kernel, rfl, by decide +kernel, by decide +kernel⟩
def nothingNew (m0 : List Nat) (d : EvD) (D : List EvD) : Bool := d.mark == m0 || D.any fun z => decide (z.needs.length < d.needs.length) && z.mark == d.mark
def few (d : EvD) (D : List EvD) (j : Nat) : Bool := match D[j]? with
  | some z => decide (z.needs.length < d.needs.length)
  | none => false
def mk1 (d : EvD) (D : List EvD) (j : Nat) : Bool := match D[j]? with
  | some z => z.mark == d.mark
  | none => false
def spNew (CU CN CE : Addr) : Sp := fun vs H Q _ => ∃ (x dx ev evs net dn tl mA : Addr) (fs : List (Str × V)) (n : Nat) (m0 : List Nat) (d : EvD) (es : List Addr) (D : List EvD), vs = [.ref x, .ref ev] ∧ H x = some (.ins CU dx fs) ∧ Has fs "events" (.ref evs) ∧ Has fs "net" (.ref net) ∧ H net = some (.ins CN dn (netF n tl mA)) ∧ TupAt H mA m0 ∧
  EvAt CE H ev d ∧ H evs = some (.lst (es.map V.ref)) ∧ AllAt (EvAt CE H) es D ∧ D.length ≤ 1000 ∧ ∀ H', Same H H' → Q (.bl (nothingNew m0 d D)) H'
theorem ok_new {CU CN CE f : Addr} {fd : FuncData} (F : Fun K "is_nothing_new" "Unfolding.is_nothing_new" sNew f fd) (TU : ClsT K mg "Unfolding" CU uN) (TN : ClsT K mg "Net" CN ["places", "transitions", "marking"]) (TE : ClsT K mg "Event" CE evN) (gLen : mg "len" = none) (gAny : mg "any" = none) :
    FnOk P w K mg base CX0 1 f fd ["self", "event"] (spNew CU CN CE) := by
  refine F.ok scNew (fun vs H Q E h => ?_) (fun cdv A outer s H vs Q E hr h => ?_)
  · obtain ⟨x, dx, ev, evs, net, dn, tl, mA, fs, n, m0, d, es, D, rfl, _⟩ := h
    rfl
  · obtain ⟨x, dx, ev, evs, net, dn, tl, mA, fs, n, m0, d, es, D, rfl, hx, f1, f2, hn, hm, hev, ge, hE, hDl, q⟩ := h
    refine ⟨_, pss_cons (ps_if (pt_cmpR (op_eqD hr.units) (pe_fld (pv 1) rfl) (pe_fld (pe_fld (pv 0) rfl) rfl) (nomark _)) (pss_one (ps_ret pe_bl)) pss_nil)
      (pss_cons (ps_setLc (i := 2) (own := [("other", 3)]) (g := gName 3) (tt := tTest (tOp (rI0 fun i j => .bl (decide (i < j))) (tCB (rLenS K) (tCons (tFld K (tVar 3) "needs") tNil)) (tCB (rLenS K) (tCons (tFld K (tVar 1) "needs") tNil)))) (te := tVar 3) rfl scNew.nd rfl rfl (sw_true rfl rfl rfl (by decide +kernel)) (pi_list (pe_fld (pv 0) rfl)) (blkOk_by (own := [("other", 3)]) (N := nNew) (sc := defScope sNew) (by decide +kernel))
        (fun _ _ _ _ _ => pg_name (i := 3) scNew.nd rfl (Or.inl rfl)) (fun _ _ _ _ _ => pts_one (pt_cmpR op_lt (pe_callB (r := rLenS K) call_len_seq (by rfl) gLen PySem.boot_len (pa_cons (pe_fld (pv 3) rfl) pa_nil)) (pe_callB (r := rLenS K) call_len_seq (by rfl) gLen PySem.boot_len (pa_cons (pe_fld (pv 1) rfl) pa_nil)) (nomark _))) (fun _ _ _ _ _ => pv 3))
      (pss_one (ps_ret (pe_callB (cr_any rfl) (by rfl) gAny (by decide +kernel) (pa_cons (pe_lc (own := [("other", 3)]) (g := gName 3) (tt := tYes) (te := tOp (rEqD K) (tFld K (tVar 3) "marking") (tFld K (tVar 1) "marking")) rfl scNew.nd (pi_list (pv 2)) (blkOk_by (own := [("other", 3)]) (N := nNew) (sc := defScope sNew) (by decide +kernel))
        (fun _ _ _ _ _ => pg_name (i := 3) scNew.nd rfl (Or.inl rfl)) (fun _ _ _ _ _ => pts_nil) (fun _ _ _ _ _ => pe_cmpR (r := rEqD K) (op_eqD hr.units) (pe_fld (pv 3) rfl) (pe_fld (pv 1) rfl) (nomark _))) pa_nil))))), ?_⟩
    obtain ⟨de, us, md, nd, mk, e1, e2, e3, e4, e5⟩ := id hev
    refine ⟨_, rfl, ev, CE, de, _, _, rfl, e1, TE.cl, TE.no _ (by decide +kernel), look (ns := evN) 4 rfl (by decide +kernel) rfl, _, rfl, x, CU, dx, fs, _, rfl, hx, TU.cl, TU.no _ (by decide +kernel), f2, net, CN, dn, _, _, rfl, hn, TN.cl, TN.no _ (by decide +kernel), look (ns := ["places", "transitions", "marking"]) 2 rfl (by decide +kernel) rfl, pd d.mark, pd m0, dp_tup e5, dp_tup hm, pd_shaped _, pd_shaped _, _, rfl, ?_⟩
    rw [pd_eqv]
    cases c : (d.mark == m0) with
    | true =>
      refine iteT ?_
      have e : nothingNew m0 d D = true := by unfold nothingNew; rw [c]; rfl
      exact e ▸ q H (Same.refl _)
    | false =>
      refine iteF ⟨_, rfl, x, CU, dx, fs, _, rfl, hx, TU.cl, TU.no _ (by decide +kernel), f1, evs, rfl, ⟨_, SqL.of ge⟩, fun D1 hD1 => ?_⟩
      refine lc_pure (walk_list (K := K) (a := evs) (xs := es.map V.ref)) yAt (p := few d D) (f := fun j => (es.map V.ref).getD j .non) hD1 (by rw [List.length_map, hE.len]; exact sz400 hDl) (fun H s2 => SqL.of (s2 _ _ ge)) (fun x => rfl) (fun j H2 Q2 hj s2 h => ?_) (fun j H2 Q2 hj _ s2 h => ⟨_, rfl, h⟩) fun H2 s2 g2 => ?_
      · rw [List.length_map, hE.len] at hj
        obtain ⟨ea, hea, dx2, us2, md2, nd2, mk2, q1, q2, q3, q4, q5⟩ := hE.get (List.getElem?_eq_getElem hj)
        rw [getD_refs hea]
        have ef : few d D j = decide (D[j].needs.length < d.needs.length) := by unfold few; rw [List.getElem?_eq_getElem hj]
        rw [ef] at h
        refine ⟨_, rfl, ea, CE, dx2, _, _, rfl, s2 _ _ q1, TE.cl, TE.no _ (by decide +kernel), look (ns := evN) 3 rfl (by decide +kernel) rfl, nd2, _, rfl, .inl (SqL.of (s2 _ _ q4)), _, rfl, ev, CE, de, _, _, rfl, s2 _ _ e1, TE.cl, TE.no _ (by decide +kernel), look (ns := evN) 3 rfl (by decide +kernel) rfl, nd, _, rfl, .inl (SqL.of (s2 _ _ e4)), _, _, rfl, rfl, _, rfl, ?_⟩
        rw [nats_len, nats_len]
        have e : decide (((D[j].needs.length : Nat) : Int) < ((d.needs.length : Nat) : Int)) = decide (D[j].needs.length < d.needs.length) := by
          rw [decide_eq_decide]
          omega
        rw [e]
        exact h
      · rw [List.length_map, hE.len] at g2
        have hfl : ((List.range D.length).filter (few d D)).length ≤ D.length := by
          have := List.length_filter_le (few d D) (List.range D.length)
          rwa [List.length_range] at this
        refine ⟨_, rfl, D1, rfl, ⟨_, SqL.of g2⟩, fun D2 hD2 => ?_⟩
        refine lc_pure (walk_list (K := K) (a := D1) (xs := ((List.range D.length).filter (few d D)).map fun j => (es.map V.ref).getD j .non)) yAt (p := fun _ => true) (f := fun i => .bl (mk1 d D (((List.range D.length).filter (few d D)).getD i 0))) hD2 (by rw [List.length_map]; exact sz400 (by omega)) (fun H s3 => SqL.of (s3 _ _ g2)) (fun x => rfl) (fun j H Q _ _ h => h) (fun i H3 Q3 hi _ s3 h => ?_) fun H3 s3 g3 => ?_
        · rw [List.length_map] at hi
          have hj := (List.mem_filter.mp (List.getElem_mem hi)).1
          rw [List.mem_range] at hj
          have eg : ((List.range D.length).filter (few d D)).getD i 0 = ((List.range D.length).filter (few d D))[i] := by rw [List.getD_eq_getElem?_getD, List.getElem?_eq_getElem hi]; rfl
          rw [eg] at h
          have ex : (((List.range D.length).filter (few d D)).map fun j => (es.map V.ref).getD j .non).getD i .non = (es.map V.ref).getD (((List.range D.length).filter (few d D))[i]) .non := by
            rw [List.getD_eq_getElem?_getD, List.getElem?_map, List.getElem?_eq_getElem hi]
            rfl
          rw [ex]
          generalize ((List.range D.length).filter (few d D))[i] = j at *
          obtain ⟨ea, hea, dx2, us2, md2, nd2, mk2, q1, q2, q3, q4, q5⟩ := hE.get (List.getElem?_eq_getElem hj)
          rw [getD_refs hea]
          have em : mk1 d D j = (D[j].mark == d.mark) := by unfold mk1; rw [List.getElem?_eq_getElem hj]
          rw [em] at h
          refine ⟨_, rfl, ea, CE, dx2, _, _, rfl, s3 _ _ (s2 _ _ q1), TE.cl, TE.no _ (by decide +kernel), look (ns := evN) 4 rfl (by decide +kernel) rfl, _, rfl, ev, CE, de, _, _, rfl, s3 _ _ (s2 _ _ e1), TE.cl, TE.no _ (by decide +kernel), look (ns := evN) 4 rfl (by decide +kernel) rfl, pd D[j].mark, pd d.mark, dp_tup (s3 _ _ (s2 _ _ q5)), dp_tup (s3 _ _ (s2 _ _ e5)), pd_shaped _, pd_shaped _, ?_⟩
          rw [pd_eqv]
          exact h
        · rw [filter_yes, List.length_map, range_map ((List.range D.length).filter (few d D)) (fun j => V.bl (mk1 d D j)) _ (fun j c hc => by rw [List.getD_eq_getElem?_getD, hc]; rfl)] at g3
          refine ⟨D2, ((List.range D.length).filter (few d D)).map (mk1 d D), rfl, SqL.of (by rw [g3, List.map_map]; rfl), ?_⟩
          have e : (((List.range D.length).filter (few d D)).map (mk1 d D)).any id = nothingNew m0 d D := by
            unfold nothingNew
            rw [c, Bool.false_or, List.any_map, Bool.eq_iff_iff, List.any_eq_true, List.any_eq_true]
            constructor
            · rintro ⟨j, hj, hm⟩
              obtain ⟨h1, h2⟩ := List.mem_filter.mp hj
              rw [List.mem_range] at h1
              have h2 : few d D j = true := h2
              have hm : mk1 d D j = true := hm
              unfold few at h2
              unfold mk1 at hm
              rw [List.getElem?_eq_getElem h1] at h2 hm
              exact ⟨D[j], List.getElem_mem h1, by rw [Bool.and_eq_true]; exact ⟨h2, hm⟩⟩
            · rintro ⟨z, hz, hm⟩
              obtain ⟨j, hj⟩ := List.mem_iff_getElem?.mp hz
              rw [Bool.and_eq_true] at hm
              refine ⟨j, List.mem_filter.mpr ⟨List.mem_range.mpr (List.getElem?_eq_some_iff.mp hj).1, ?_⟩, ?_⟩
              · unfold few; rw [hj]; exact hm.1
              · show mk1 d D j = true
                unfold mk1; rw [hj]; exact hm.2
          rw [e]
          exact q _ (s2.trans s3)
end
end NuP
end
/-! # NuCount -/
section
set_option linter.all false
namespace Nu
open Sq63
variable {g : Net} {m0 : Places} {u : Unfolding}

/-! ### how many choices there are -/
theorem mof {α : Type} {p : α → Bool} {l : List α} {x : α} (h : x ∈ l.filter p) : x ∈ l := (List.mem_filter.mp h).1
/-- in a row of events that can have happened those of one transition need one another -/
theorem same_needs (A : Good g m0 u) (N : NetOk g m0) (S : Safe g m0) {C : List Nat} (hC : Cfg u C) {e f : Nat} (he : e ∈ C) (hf : f ∈ C) (hlt : e < f) {x y : Event} (hx : u.events[e]? = some x) (hy : u.events[f]? = some y) (ht : x.t = y.t) : e ∈ needsE u f := by
  apply Classical.byContradiction
  intro hn
  have Ex := A.ev e x hx
  have Ey := A.ev f y hy
  rw [needsE_some hy] at hn
  have inC : ∀ k, k ∈ x.needs ∨ k ∈ y.needs → k ∈ C := fun k hk => by
    rcases hk with hk | hk
    · exact hC.dc e he k (by rw [needsE_some hx]; exact hk)
    · exact hC.dc f hf k (by rw [needsE_some hy]; exact hk)
  let D := C.filter fun k => decide ((k ∈ x.needs ∨ k ∈ y.needs) ∧ k ≠ e ∧ k ≠ f)
  have memD : ∀ k, k ∈ D ↔ (k ∈ x.needs ∨ k ∈ y.needs) ∧ k ≠ e ∧ k ≠ f := fun k => by
    show k ∈ C.filter _ ↔ _
    rw [List.mem_filter, decide_eq_true_iff]
    exact ⟨fun h => h.2, fun h => ⟨inC k h.1, h⟩⟩
  have hD : Cfg u D := by
    refine ⟨hC.rise.filter _, fun k hk => hC.lt k (mof hk), fun k hk j hj => ?_, fun q => hC.cf (q.mono (fun z hz => mof hz) fun z hz => mof hz)⟩
    obtain ⟨h1, h2, h3⟩ := (memD k).mp hk
    have jk := (A.needsE_le hj).1
    have hjn : j ∈ x.needs ∨ j ∈ y.needs := h1.imp (fun h => Ex.dc k h j hj) fun h => Ey.dc k h j hj
    refine (memD j).mpr ⟨hjn, ?_, ?_⟩
    · rintro rfl
      rcases h1 with h1 | h1
      · have := Ex.nle k h1
        omega
      · exact hn (Ey.dc k h1 j hj)
    · rintro rfl
      rcases h1 with h1 | h1
      · have := Ex.nle k h1
        omega
      · have := Ey.nle k h1
        omega
  have I := (cfg_all A N S _ D rfl hD).1
  obtain ⟨tx, htx, px⟩ := Ex.tr
  obtain ⟨ty, hty, py⟩ := Ey.tr
  rw [ht, hty] at htx
  rw [← Option.some.inj htx] at px
  have hne := N.some_ ty (List.mem_of_getElem? hty)
  have usedIn : ∀ (z : Event) (h : Nat), u.events[h]? = some z → (z = x ∧ h = e) ∨ (z = y ∧ h = f) → ∀ c, c ∈ z.used → c ∈ cut u D := by
    intro z h hz hzz c hc
    have Ez := A.ev h z hz
    rw [mem_cut]
    refine ⟨Ez.lt c hc, fun k hk => ?_, fun k hk hq => ?_⟩
    · have kl := Ez.old c hc k hk
      have kn : k ∈ z.needs := by
        rw [Ez.needs]
        refine mem_insert.mpr (Or.inr (mem_needAll.mpr ⟨c, hc, ?_⟩))
        rw [needsOf_some hk]
        exact A.needsE_self (A.mkr c k hk)
      refine (memD k).mpr ?_
      rcases hzz with ⟨rfl, rfl⟩ | ⟨rfl, rfl⟩
      · exact ⟨Or.inl kn, by omega, by omega⟩
      · exact ⟨Or.inr kn, fun q => hn (by rw [← q]; exact kn), by omega⟩
    · obtain ⟨h1, h2, h3⟩ := (memD k).mp hk
      have hhC : h ∈ C := by rcases hzz with ⟨_, rfl⟩ | ⟨_, rfl⟩ <;> assumption
      refine hC.cf ⟨k, inC k h1, h, hhC, ?_, c, hq, by rw [usedOf_some hz]; exact hc⟩
      rcases hzz with ⟨_, rfl⟩ | ⟨_, rfl⟩ <;> assumption
  cases hxu : x.used with
  | nil => rw [hxu] at px; exact hne px.symm
  | cons c l =>
    cases hyu : y.used with
    | nil => rw [hyu] at py; exact hne py.symm
    | cons c' l' =>
      have hcc : c = c' := by
        refine I c (usedIn x e hx (Or.inl ⟨rfl, rfl⟩) c (by rw [hxu]; simp)) c' (usedIn y f hy (Or.inr ⟨rfl, rfl⟩) c' (by rw [hyu]; simp)) ?_
        rw [hxu, List.map_cons] at px
        rw [hyu, List.map_cons] at py
        have := px.trans py.symm
        exact (List.cons.inj this).1
      refine hC.cf ⟨e, he, f, hf, by omega, c, ?_, ?_⟩
      · rw [usedOf_some hx, hxu]; simp
      · rw [usedOf_some hy, hyu, hcc]; simp
/-- what conditions need that can be there at once can have happened -/
theorem tog_cfg (A : Good g m0 u) {cs : List Nat} (h : together u cs = true) : Cfg u (needAll u cs) := by
  refine ⟨needAll_rise _ _, fun e he => Grow.needAll_lt A he, fun e he f hf => ?_, (together_iff.mp h).1⟩
  obtain ⟨c, hc, he⟩ := mem_needAll.mp he
  obtain ⟨m, hm, he⟩ := needsOf_mem he
  obtain ⟨x, hx, he⟩ := needs_ev he
  refine mem_needAll.mpr ⟨c, hc, ?_⟩
  rw [needsOf_some hm, needsE_some hx]
  exact (A.ev m x hx).dc e he f hf
theorem tog_cut (A : Good g m0 u) {cs : List Nat} (hl : ∀ c, c ∈ cs → c < u.conds.length) (h : together u cs = true) : ∀ c, c ∈ cs → c ∈ cut u (needAll u cs) := fun c hc => by
  rw [mem_cut]
  refine ⟨hl c hc, fun e he => mem_needAll.mpr ⟨c, hc, ?_⟩, fun e he => (together_iff.mp h).2 c hc e he⟩
  rw [needsOf_some he]
  exact A.needsE_self (A.mkr c e he)
def trOf (u : Unfolding) (e : Nat) : Nat := ((u.events[e]?).map fun x => x.t).getD 0
/-- the last event of a transition among some -/
def lastOf (u : Unfolding) (C : List Nat) (t : Nat) : Option Nat := (C.filter fun e => trOf u e == t).getLast?
def sig (g : Net) (u : Unfolding) (C : List Nat) : List (Option Nat) := (List.range g.ts.length).map (lastOf u C)
theorem sig_inj (A : Good g m0 u) (N : NetOk g m0) (S : Safe g m0) {C D : List Nat} (hC : Cfg u C) (hD : Cfg u D) (h : sig g u C = sig g u D) : C = D := by
  have key : ∀ {C D : List Nat}, Cfg u C → Cfg u D → sig g u C = sig g u D → ∀ e, e ∈ C → e ∈ D := by
    intro C D hC hD h e he
    have hl := hC.lt e he
    have hx := List.getElem?_eq_getElem hl
    obtain ⟨t, ht, _⟩ := (A.ev e _ hx).tr
    have htl : (u.events[e]).t < g.ts.length := (List.getElem?_eq_some_iff.mp ht).1
    have hte : trOf u e = (u.events[e]).t := by unfold trOf; rw [hx]; rfl
    have hs : lastOf u C (trOf u e) = lastOf u D (trOf u e) := by
      have := congrArg (fun l => l[trOf u e]?) h
      unfold sig at this
      simp only [List.getElem?_map] at this
      rw [List.getElem?_eq_getElem (by rw [List.length_range, hte]; exact htl), List.getElem_range] at this
      exact Option.some.inj this
    have hin : e ∈ C.filter fun k => trOf u k == trOf u e := List.mem_filter.mpr ⟨he, by simp⟩
    obtain ⟨L, l, hL⟩ : ∃ L l, (C.filter fun k => trOf u k == trOf u e) = L ++ [l] := by
      rcases snoc_cases (C.filter fun k => trOf u k == trOf u e) with q | q
      · rw [q] at hin; simp at hin
      · exact q
    have hCl : lastOf u C (trOf u e) = some l := by
      unfold lastOf
      rw [hL]
      simp
    rw [hs] at hCl
    have hlD : l ∈ D := by
      unfold lastOf at hCl
      exact mof (List.mem_of_getLast? hCl)
    have hlC : l ∈ C.filter fun k => trOf u k == trOf u e := by rw [hL]; simp
    have hlt : trOf u l = trOf u e := by simpa using (List.mem_filter.mp hlC).2
    have hle : e ≤ l := by
      have hr := hC.rise.filter fun k => trOf u k == trOf u e
      rw [hL] at hin hr
      rcases List.mem_append.mp hin with q | q
      · exact Nat.le_of_lt ((List.pairwise_append.mp hr).2.2 e q l (by simp))
      · rw [List.mem_singleton.mp q]; exact Nat.le_refl _
    rcases Nat.lt_or_eq_of_le hle with hlt2 | rfl
    · have hll := hC.lt l (mof hlC)
      have hy := List.getElem?_eq_getElem hll
      have hn := same_needs A N S hC he (mof hlC) hlt2 hx hy (by
        have : trOf u l = (u.events[l]).t := by unfold trOf; rw [hy]; rfl
        rw [← hte, ← hlt, this])
      exact hD.dc l hlD e hn
    · exact hlD
  exact rise_ext hC.rise hD.rise fun e => ⟨key hC hD h e, key hD hC h.symm e⟩
/-- two choices for the same places that need the same are the same -/
theorem fits_inj (A : Good g m0 u) (N : NetOk g m0) (S : Safe g m0) {ps cs ds : List Nat} (h1 : Fits u ps cs) (h2 : Fits u ps ds) (t1 : together u cs = true) (t2 : together u ds = true) (h : needAll u cs = needAll u ds) : cs = ds := by
  have I := (cfg_all A N S _ _ rfl (tog_cfg A t1)).1
  refine List.ext_getElem (by rw [h1.len, h2.len]) fun i l1 l2 => ?_
  refine I _ (tog_cut A h1.lt t1 _ (List.getElem_mem l1)) _ (by rw [h]; exact tog_cut A h2.lt t2 _ (List.getElem_mem l2)) ?_
  have e1 : (cs.map (placeOf u))[i]? = (ds.map (placeOf u))[i]? := by rw [h1.pl, h2.pl]
  rw [List.getElem?_map, List.getElem?_map, List.getElem?_eq_getElem l1, List.getElem?_eq_getElem l2] at e1
  exact Option.some.inj e1
/-- all rows with an item of each list -/
def prods {α : Type} : List (List α) → List (List α)
  | [] => [[]]
  | l :: ls => l.flatMap fun a => (prods ls).map fun r => a :: r
theorem mem_prods {α : Type} : ∀ {ls : List (List α)} {r : List α}, r ∈ prods ls ↔ r.length = ls.length ∧ ∀ (i : Nat) a l, r[i]? = some a → ls[i]? = some l → a ∈ l
  | [], r => by
    unfold prods
    rw [List.mem_singleton]
    constructor
    · rintro rfl; exact ⟨rfl, fun i a l h => by simp at h⟩
    · rintro ⟨h, _⟩; exact List.eq_nil_of_length_eq_zero h
  | l :: ls, r => by
    unfold prods
    simp only [List.mem_flatMap, List.mem_map]
    constructor
    · rintro ⟨a, ha, r', hr', rfl⟩
      obtain ⟨h1, h2⟩ := mem_prods.mp hr'
      refine ⟨by simp [h1], fun i b m hb hm => ?_⟩
      cases i with
      | zero => simp at hb hm; subst hb hm; exact ha
      | succ i => exact h2 i b m (by simpa using hb) (by simpa using hm)
    · rintro ⟨h1, h2⟩
      cases r with
      | nil => simp at h1
      | cons a r' => exact ⟨a, h2 0 a l rfl rfl, r', mem_prods.mpr ⟨by simpa using h1, fun i b m hb hm => h2 (i + 1) b m (by simpa using hb) (by simpa using hm)⟩, rfl⟩
theorem prods_len {α : Type} : ∀ (ls : List (List α)), (prods ls).length = (ls.map List.length).foldr (· * ·) 1
  | [] => rfl
  | l :: ls => by
    show (l.flatMap fun a => (prods ls).map fun r => a :: r).length = l.length * (ls.map List.length).foldr (· * ·) 1
    rw [List.length_flatMap, ← prods_len ls]
    induction l with
    | nil => simp
    | cons a l ih => rw [List.map_cons, List.sum_cons, ih, List.length_map, List.length_cons, Nat.add_mul, Nat.one_mul, Nat.add_comm]
/-- the greatest product -/
theorem one_le (n : Nat) : (1 + n) * 6 ^ n * 7 ^ 5 ≤ 6 * 7 ^ n * 6 ^ 5 := by
  induction n using Nat.strongRecOn with
  | _ n ih =>
    by_cases h : n ≤ 6
    · have : n = 0 ∨ n = 1 ∨ n = 2 ∨ n = 3 ∨ n = 4 ∨ n = 5 ∨ n = 6 := by omega
      rcases this with rfl | rfl | rfl | rfl | rfl | rfl | rfl <;> decide
    · obtain ⟨m, rfl⟩ : ∃ m, n = m + 1 := ⟨n - 1, by omega⟩
      have i := ih m (by omega)
      have h1 : (1 + (m + 1)) * 6 ≤ 7 * (1 + m) := by omega
      calc (1 + (m + 1)) * 6 ^ (m + 1) * 7 ^ 5 = ((1 + (m + 1)) * 6) * (6 ^ m * 7 ^ 5) := by rw [Nat.pow_succ]; simp only [Nat.mul_assoc, Nat.mul_comm, Nat.mul_left_comm]
        _ ≤ (7 * (1 + m)) * (6 ^ m * 7 ^ 5) := Nat.mul_le_mul_right _ h1
        _ = 7 * ((1 + m) * 6 ^ m * 7 ^ 5) := by simp only [Nat.mul_assoc]
        _ ≤ 7 * (6 * 7 ^ m * 6 ^ 5) := Nat.mul_le_mul_left _ i
        _ = 6 * 7 ^ (m + 1) * 6 ^ 5 := by
          have e7 : (7 : Nat) ^ (m + 1) = 7 ^ m * 7 := Nat.pow_succ ..
          rw [e7]
          generalize (6 : Nat) ^ 5 = z
          generalize (7 : Nat) ^ m = y
          simp only [Nat.mul_assoc, Nat.mul_comm, Nat.mul_left_comm]
theorem prod_le : ∀ (l : List Nat), (l.map (1 + ·)).foldr (· * ·) 1 * 6 ^ l.sum * 7 ^ (5 * l.length) ≤ 6 ^ l.length * 7 ^ l.sum * 6 ^ (5 * l.length)
  | [] => by simp
  | n :: l => by
    have i := prod_le l
    have o := one_le n
    rw [List.map_cons, List.foldr_cons, List.sum_cons, List.length_cons, Nat.pow_add, Nat.mul_add, Nat.mul_one, Nat.pow_add 7 (5 * l.length), Nat.pow_add 7 n, Nat.pow_add 6 (5 * l.length), show (6 : Nat) ^ (l.length + 1) = 6 ^ l.length * 6 from Nat.pow_succ ..]
    generalize (l.map (1 + ·)).foldr (· * ·) 1 = p at *
    generalize 6 ^ l.sum = a at *
    generalize 7 ^ (5 * l.length) = b at *
    generalize 6 ^ l.length = c at *
    generalize 7 ^ l.sum = d at *
    generalize 6 ^ (5 * l.length) = e at *
    calc (1 + n) * p * (6 ^ n * a) * (b * 7 ^ 5) = ((1 + n) * 6 ^ n * 7 ^ 5) * (p * a * b) := by simp only [Nat.mul_assoc, Nat.mul_comm, Nat.mul_left_comm]
      _ ≤ (6 * 7 ^ n * 6 ^ 5) * (c * d * e) := Nat.mul_le_mul o i
      _ = c * 6 * (7 ^ n * d) * (e * 6 ^ 5) := by simp only [Nat.mul_assoc, Nat.mul_comm, Nat.mul_left_comm]
theorem prod_bound {l : List Nat} (hl : l.length = 8) (hs : l.sum ≤ 40) : (l.map (1 + ·)).foldr (· * ·) 1 ≤ 6 ^ 8 := by
  have h := prod_le l
  rw [hl] at h
  obtain ⟨k, hk⟩ : ∃ k, l.sum + k = 40 := ⟨40 - l.sum, by omega⟩
  have h7 : (7 : Nat) ^ (5 * 8) = 7 ^ l.sum * 7 ^ k := by rw [← Nat.pow_add, hk]
  have h6 : (6 : Nat) ^ (5 * 8) = 6 ^ l.sum * 6 ^ k := by rw [← Nat.pow_add, hk]
  rw [h7, h6] at h
  have hle : (6 : Nat) ^ k ≤ 7 ^ k := Nat.pow_le_pow_left (by omega) k
  have hpos : 0 < 6 ^ l.sum * (7 ^ l.sum * 7 ^ k) := Nat.mul_pos (Nat.pow_pos (by omega)) (Nat.mul_pos (Nat.pow_pos (by omega)) (Nat.pow_pos (by omega)))
  refine Nat.le_of_mul_le_mul_right ?_ hpos
  calc (l.map (1 + ·)).foldr (· * ·) 1 * (6 ^ l.sum * (7 ^ l.sum * 7 ^ k)) = (l.map (1 + ·)).foldr (· * ·) 1 * 6 ^ l.sum * (7 ^ l.sum * 7 ^ k) := by rw [Nat.mul_assoc]
    _ ≤ 6 ^ 8 * 7 ^ l.sum * (6 ^ l.sum * 6 ^ k) := h
    _ ≤ 6 ^ 8 * 7 ^ l.sum * (6 ^ l.sum * 7 ^ k) := Nat.mul_le_mul_left _ (Nat.mul_le_mul_left _ hle)
    _ = 6 ^ 8 * (6 ^ l.sum * (7 ^ l.sum * 7 ^ k)) := by simp only [Nat.mul_assoc, Nat.mul_comm, Nat.mul_left_comm]
theorem sum_zero (n : Nat) : (List.replicate n 0).sum = 0 := by
  induction n with
  | zero => rfl
  | succ n ih => rw [List.replicate_succ, List.sum_cons, ih]
theorem foldr_ones (n : Nat) : ((List.replicate n 0).map (1 + ·)).foldr (· * ·) 1 = 1 := by
  induction n with
  | zero => rfl
  | succ n ih => rw [List.replicate_succ, List.map_cons, List.foldr_cons, ih]
theorem foldr_mul (a b : List Nat) : (a ++ b).foldr (· * ·) 1 = a.foldr (· * ·) 1 * b.foldr (· * ·) 1 := by
  induction a with
  | nil => simp
  | cons x a ih => rw [List.cons_append, List.foldr_cons, List.foldr_cons, ih, Nat.mul_assoc]
theorem prod_bound' {l : List Nat} (hl : l.length ≤ 8) (hs : l.sum ≤ 40) : (l.map (1 + ·)).foldr (· * ·) 1 ≤ 6 ^ 8 := by
  have h := prod_bound (l := l ++ List.replicate (8 - l.length) 0) (by simp; omega) (by rw [List.sum_append, sum_zero]; omega)
  rw [List.map_append, foldr_mul, foldr_ones, Nat.mul_one] at h
  exact h
theorem sum_parts (f : Nat → Nat) : ∀ (l : List Nat) (k : Nat), ((List.range k).map fun t => (l.filter fun e => f e == t).length).sum ≤ l.length
  | [], k => by
    have : ((List.range k).map fun t => (([] : List Nat).filter fun e => f e == t).length) = List.replicate k 0 := by
      rw [List.eq_replicate_iff]
      refine ⟨by simp, fun x hx => ?_⟩
      obtain ⟨t, _, rfl⟩ := List.mem_map.mp hx
      rfl
    rw [this, sum_zero]
    exact Nat.le_refl _
  | e :: l, k => by
    have ih := sum_parts f l k
    have h1 : ∀ r : List Nat, r.Nodup → (r.map fun t => ((e :: l).filter fun e => f e == t).length).sum ≤ (r.map fun t => (l.filter fun e => f e == t).length).sum + 1 := by
      intro r hr
      induction r with
      | nil => simp
      | cons t r ihr =>
        rw [List.nodup_cons] at hr
        rw [List.map_cons, List.map_cons, List.sum_cons, List.sum_cons]
        by_cases q : f e = t
        · have h2 : (r.map fun t => ((e :: l).filter fun e => f e == t).length) = r.map fun t => (l.filter fun e => f e == t).length := by
            refine List.map_congr_left fun t' ht' => ?_
            rw [List.filter_cons, if_neg]
            intro z
            have : f e = t' := by simpa using z
            exact hr.1 (by rw [← q, this]; exact ht')
          rw [h2, List.filter_cons, if_pos (by simp [q]), List.length_cons]
          omega
        · have := ihr hr.2
          rw [List.filter_cons, if_neg (by simp [q])]
          omega
    have := h1 (List.range k) List.nodup_range
    rw [List.length_cons]
    omega
/-- there are not many -/
theorem count_fits (A : Good g m0 u) (N : NetOk g m0) (S : Safe g m0) (h8 : g.ts.length ≤ 8) (h40 : u.events.length ≤ 40) {ps : List Nat} {L : List (List Nat)} (nd : L.Nodup) (hL : ∀ cs, cs ∈ L → Fits u ps cs ∧ together u cs = true) : L.length ≤ 6 ^ 8 := by
  let evT : Nat → List (Option Nat) := fun t => none :: ((List.range u.events.length).filter fun e => trOf u e == t).map some
  have h1 : (L.map fun cs => sig g u (needAll u cs)).Nodup := by
    rw [List.Nodup, List.pairwise_map]
    refine List.Pairwise.imp_of_mem (fun {a b} ha hb hne q => hne ?_) nd
    have e := sig_inj A N S (tog_cfg A (hL a ha).2) (tog_cfg A (hL b hb).2) q
    exact fits_inj A N S (hL a ha).1 (hL b hb).1 (hL a ha).2 (hL b hb).2 e
  have h2 := nodup_sub_len (L := prods ((List.range g.ts.length).map evT)) h1 fun x hx => by
    obtain ⟨cs, hcs, rfl⟩ := List.mem_map.mp hx
    rw [mem_prods]
    refine ⟨by simp [sig], fun i a l ha hl => ?_⟩
    unfold sig at ha
    rw [List.getElem?_map] at ha hl
    cases hi : (List.range g.ts.length)[i]? with
    | none => rw [hi] at ha; cases ha
    | some t =>
      rw [hi] at ha hl
      have ha := Option.some.inj ha
      have hl := Option.some.inj hl
      subst ha hl
      cases q : lastOf u (needAll u cs) t with
      | none => simp [evT]
      | some e =>
        have hm := List.mem_of_getLast? (show ((needAll u cs).filter fun e => trOf u e == t).getLast? = some e from q)
        obtain ⟨h3, h4⟩ := List.mem_filter.mp hm
        refine List.mem_cons_of_mem _ (List.mem_map.mpr ⟨e, List.mem_filter.mpr ⟨List.mem_range.mpr (Grow.needAll_lt A h3), h4⟩, rfl⟩)
  rw [List.length_map, prods_len, List.map_map] at h2
  refine Nat.le_trans h2 ?_
  have e : (List.range g.ts.length).map (List.length ∘ evT) = ((List.range g.ts.length).map fun t => ((List.range u.events.length).filter fun e => trOf u e == t).length).map (1 + ·) := by
    rw [List.map_map]
    refine List.map_congr_left fun t _ => ?_
    show (none :: _).length = 1 + _
    rw [List.length_cons, List.length_map, Nat.add_comm]
  rw [e]
  refine prod_bound' (by simpa using h8) ?_
  have := sum_parts (trOf u) (List.range u.events.length) g.ts.length
  rw [List.length_range] at this
  omega
/-- the rows of the program, place by place -/
theorem rows_count (A : Good g m0 u) (N : NetOk g m0) (S : Safe g m0) (h8 : g.ts.length ≤ 8) (h40 : u.events.length ≤ 40) {B : List Nat} (hB : Beside u B) {ps : List Nat} (hps : ps.Nodup) (near : Nat) : (ps.foldl (rowsStep (usableOf u) B) [([], near)]).length ≤ 6 ^ 8 := by
  have h := count_fits A N S h8 h40 (choicesP_nodup usable_nodup ps near (B := B)) fun cs hcs => by
    obtain ⟨h1, h2, _⟩ := (choicesP_iff A hB hps).mp hcs
    exact ⟨h1, h2⟩
  unfold choicesP at h
  rw [List.length_map] at h
  exact h
theorem len_parts {α : Type} (p : α → Bool) (l : List α) : l.length = (l.filter p).length + (l.filter fun x => !p x).length := by
  induction l with
  | nil => rfl
  | cons a l ih =>
    cases q : p a
    · simp [q, List.filter_cons]; omega
    · simp [q, List.filter_cons]; omega
theorem poss_count (A : Good g m0 u) (N : NetOk g m0) (S : Safe g m0) (h8 : g.ts.length ≤ 8) (h40 : u.events.length ≤ 40) {L : List PKey} (hL : PossList g u L) : L.length ≤ 8 * 6 ^ 8 := by
  have split : ∀ (k : Nat) (L : List PKey), (∀ x, x ∈ L → x.2.1 < k) → L.length = ((List.range k).map fun t => (L.filter fun x => x.2.1 == t).length).sum := by
    intro k
    induction k with
    | zero =>
      intro L h
      cases L with
      | nil => rfl
      | cons x l => exact absurd (h x (by simp)) (by omega)
    | succ k ih =>
      intro L h
      rw [List.range_succ, List.map_append, List.sum_append]
      have e := ih (L.filter fun x => !(x.2.1 == k)) fun x hx => by
        obtain ⟨h1, h2⟩ := List.mem_filter.mp hx
        have := h x h1
        have : x.2.1 ≠ k := by simpa using h2
        omega
      have e2 : ((List.range k).map fun t => ((L.filter fun x => !(x.2.1 == k)).filter fun x => x.2.1 == t).length) = (List.range k).map fun t => (L.filter fun x => x.2.1 == t).length := by
        refine List.map_congr_left fun t ht => ?_
        rw [List.filter_filter]
        refine congrArg List.length (List.filter_congr fun x _ => ?_)
        have := List.mem_range.mp ht
        by_cases q : x.2.1 = t
        · have : x.2.1 ≠ k := by omega
          simp [q, this]; omega
        · simp [q]
      rw [e2] at e
      rw [← e]
      have := len_parts (fun x : PKey => x.2.1 == k) L
      simp only [List.map_cons, List.map_nil, List.sum_cons, List.sum_nil]
      omega
  rw [split g.ts.length L fun x hx => by
    obtain ⟨k, t, cs⟩ := x
    obtain ⟨tr, ht, _⟩ := ((hL.mem k t cs).mp hx).1.fit
    exact (List.getElem?_eq_some_iff.mp ht).1]
  have each : ∀ t, (L.filter fun x => x.2.1 == t).length ≤ 6 ^ 8 := by
    intro t
    by_cases htl : t < g.ts.length
    · have h := count_fits A N S h8 h40 (ps := (g.ts[t]).takes) (L := (L.filter fun x => x.2.1 == t).map fun x => x.2.2) (by
        rw [List.Nodup, List.pairwise_map]
        refine List.Pairwise.imp_of_mem (fun {a b} ha hb hne q => hne ?_) (List.Nodup.sublist List.filter_sublist hL.nd)
        obtain ⟨k, t1, cs⟩ := a
        obtain ⟨k2, t2, cs2⟩ := b
        have q : cs = cs2 := q
        have a1 := (List.mem_filter.mp ha)
        have b1 := (List.mem_filter.mp hb)
        have e1 : t1 = t := by simpa using a1.2
        have e2 : t2 = t := by simpa using b1.2
        rw [((hL.mem _ _ _).mp a1.1).2, ((hL.mem _ _ _).mp b1.1).2, e1, e2, q]) fun cs hcs => by
          obtain ⟨⟨k, t1, cs1⟩, hx, rfl⟩ := List.mem_map.mp hcs
          have a1 := (List.mem_filter.mp hx)
          have e1 : t1 = t := by simpa using a1.2
          obtain ⟨⟨⟨tr, h1, h2⟩, h3, _⟩, _⟩ := (hL.mem _ _ _).mp a1.1
          rw [e1, List.getElem?_eq_getElem htl] at h1
          cases h1
          exact ⟨h2, h3⟩
      rw [List.length_map] at h
      exact h
    · have : (L.filter fun x => x.2.1 == t) = [] := by
        rw [List.filter_eq_nil_iff]
        rintro ⟨k, t1, cs⟩ hx q
        have e1 : t1 = t := by simpa using q
        obtain ⟨tr, ht, _⟩ := ((hL.mem _ _ _).mp hx).1.fit
        have := (List.getElem?_eq_some_iff.mp ht).1
        omega
      rw [this]
      exact Nat.zero_le _
  have sumle : ∀ l : List Nat, (∀ x, x ∈ l → x ≤ 6 ^ 8) → l.sum ≤ l.length * 6 ^ 8 := by
    intro l h
    induction l with
    | nil => simp
    | cons a l ih =>
      have h1 := ih fun x hx => h x (by simp [hx])
      have h2 := h a (by simp)
      rw [List.sum_cons, List.length_cons, Nat.add_mul, Nat.one_mul]
      omega
  refine Nat.le_trans (sumle _ fun x hx => ?_) ?_
  · obtain ⟨t, _, rfl⟩ := List.mem_map.mp hx
    exact each t
  · rw [List.length_map, List.length_range]
    exact Nat.mul_le_mul_right _ h8
end Nu
end
/-! # NuP13 -/
section
set_option Elab.async false
set_option maxRecDepth 100000
set_option maxHeartbeats 4000000
set_option linter.all false
namespace NuP
open PySem PySem.Spec PyProof.Rows L2
/-! ### choices -/
def RowAt (H : Hp) (a : Addr) (r : List Nat × Nat) : Prop := ∃ b, H a = some (.tup [.ref b, natV r.2]) ∧ TupAt H b r.1
theorem RowAt.same {H H' : Hp} {a : Addr} {r : List Nat × Nat} (h : RowAt H a r) (s : Same H H') : RowAt H' a r := by
  obtain ⟨b, h1, h2⟩ := h
  exact ⟨b, s _ _ h1, s _ _ h2⟩
/-- Same but for one address of the list -/
theorem RowAt.keep {H H' : Hp} {a l : Addr} {r : List Nat × Nat} {xs : List V} (h : RowAt H a r) (k : Keep [l] H H') (hl : H l = some (.lst xs)) : RowAt H' a r := by
  obtain ⟨b, h1, h2⟩ := h
  refine ⟨b, k _ _ h1 fun q => ?_, k _ _ h2 fun q => ?_⟩
  · rw [List.mem_singleton.mp q, hl] at h1
    cases h1
  · rw [List.mem_singleton.mp q] at h2
    rw [show H l = _ from h2] at hl
    cases hl
def stepRow (Up B : List Nat) (r : List Nat × Nat) : List (List Nat × Nat) := (Up.filter fun c => r.2.testBit c).map fun c => (r.1 ++ [c], r.2 &&& (B[c]?).getD 0)
theorem flat_len {α β : Type} (f : α → List β) {l : List α} {j : Nat} {r : α} (h : l[j]? = some r) : ((l.take j).flatMap f).length + (f r).length ≤ (l.flatMap f).length := by
  have e : l = l.take j ++ r :: l.drop (j + 1) := by
    have hj := (List.getElem?_eq_some_iff.mp h).1
    have := List.take_append_drop j l
    rw [List.drop_eq_getElem_cons hj, (List.getElem?_eq_some_iff.mp h).2] at this
    exact this.symm
  have := congrArg (fun l => (l.flatMap f).length) e
  simp only [List.flatMap_append, List.flatMap_cons, List.length_append] at this
  omega
theorem flat_take {α β : Type} (f : α → List β) {l : List α} {j : Nat} {r : α} (h : l[j]? = some r) : (l.take (j + 1)).flatMap f = (l.take j).flatMap f ++ f r := by
  rw [take1 h, List.flatMap_append]
  simp
theorem rows_long {U : Nat → List Nat} {B : List Nat} : ∀ (ps : List Nat) (rows : List (List Nat × Nat)) (n : Nat), (∀ r, r ∈ rows → r.1.length ≤ n) → ∀ r, r ∈ ps.foldl (Nu.rowsStep U B) rows → r.1.length ≤ n + ps.length
  | [], rows, n, h, r, hr => h r hr
  | p :: ps, rows, n, h, r, hr => by
    rw [List.foldl_cons] at hr
    have := rows_long ps _ (n + 1) (fun r hr => by
      unfold Nu.rowsStep at hr
      obtain ⟨r0, h0, hr⟩ := List.mem_flatMap.mp hr
      obtain ⟨c, _, rfl⟩ := List.mem_map.mp hr
      have := h r0 h0
      rw [List.length_append]
      show _ + 1 ≤ _
      omega) r hr
    rw [List.length_cons]
    omega
theorem big8 {n : Nat} (h : n ≤ 6 ^ 8) : n < sizeLine := Nat.lt_of_le_of_lt h (by decide)
section
variable {P : Program} {w : World} {K : PySem.W.Frag} {mg : Str → Option Value} {base : Heap}
abbrev sCho : Stmt := inClass (top 20) 11
abbrev nCho : List Str := ["self", "places", "near", "rows", "place", "longer", "chosen", "fitting", "condition"]
theorem scCho : FnScope nCho ["self", "places", "near"] (defScope sCho) := ⟨rfl, rfl, rfl, by decide +kernel, rfl, by decide +kernel, by decide +kernel⟩
def spCho (CU : Addr) (K : PySem.W.Frag) : Sp := fun vs H Q _ => ∃ (x dx pl bes usb : Addr) (fs : List (Str × V)) (ps B : List Nat) (us : List Addr) (U : List (List Nat)) (near : Nat), vs = [.ref x, .ref pl, natV near] ∧ H x = some (.ins CU dx fs) ∧ Has fs "beside" (.ref bes) ∧ Has fs "usable" (.ref usb) ∧
  ListAt H pl ps ∧ ListAt H bes B ∧ H usb = some (.lst (us.map V.ref)) ∧ AllAt (ListAt H) us U ∧ (∀ p, p ∈ ps → p < U.length) ∧ (∀ l, l ∈ U → ∀ c, c ∈ l → c < B.length) ∧ ps.length ≤ 1000 ∧ (∀ k, ((ps.take k).foldl (Nu.rowsStep (fun p => (U[p]?).getD []) B) [([], near)]).length ≤ 6 ^ 8) ∧
  ∀ (H' : Hp) (p : Addr) (as : List Addr), Same H H' → H p = none → H' p = some (.lst (as.map V.ref)) → AllAt (TupAt H') as (Nu.choicesP (fun p => (U[p]?).getD []) B ps near) → Q (.ref p) H'
theorem ok_cho {CU f fH : Addr} {fd fdH : FuncData} (F : Fun K "choices" "Unfolding.choices" sCho f fd) (TU : ClsT K mg "Unfolding" CU uN)
    (GH : FnOk P w K mg base CX0 1 fH fdH ["bits", "number"] spHas) (bH : Binds K fdH ["bits", "number"] []) (gH : mg "has_bit" = some (.ref fH)) (kH : PySem.W.keepIn K (.ref fH) = true) : FnOk P w K mg base CX0 2 f fd ["self", "places", "near"] (spCho CU K) := by
  refine F.ok scCho (fun vs H Q E h => ?_) (fun cdv A outer s H vs Q E hr h => ?_)
  · obtain ⟨x, dx, pl, bes, usb, fs, ps, B, us, U, near, rfl, _⟩ := h
    rfl
  · obtain ⟨x, dx, pl, bes, usb, fs, ps, B, us, U, near, rfl, hx, f1, f2, gpl, gb, gus, hU, hps, hlt, hpl, hbig, q⟩ := h
    refine ⟨_, pss_cons (ps_set (i := 3) scCho.nd rfl (Or.inl rfl) (pe_lst (pa_cons (pe_tup (pa_cons (pe_tup pa_nil) (pa_cons (pv 2) pa_nil))) pa_nil)))
      (pss_cons (ps_for PassesOwn.never rfl (pi_list (pv 1)) (pg_name (i := 4) scCho.nd rfl (Or.inl rfl))
        (pss_cons (ps_set (i := 5) scCho.nd rfl (Or.inl rfl) (pe_lst pa_nil))
        (pss_cons (ps_for PassesOwn.never rfl (pi_list (pv 3)) (pg_tup rfl (pgs_cons (pg_name (i := 6) scCho.nd rfl (Or.inl rfl)) (pgs_cons (pg_name (i := 7) scCho.nd rfl (Or.inl rfl)) pgs_nil)))
          (pss_one (ps_for PassesOwn.never rfl (pi_list (pe_ix ix_list (pe_fld (pv 0) rfl) (pv 4) (fun _ _ => rfl))) (pg_name (i := 8) scCho.nd rfl (Or.inl rfl))
            (pss_one (ps_if (pt_val (pe_call GH hr rfl gH kH bH .nil pass0 (pa_cons (pv 7) (pa_cons (pv 8) pa_nil))))
              (pss_one (ps_expr (pe_bm PySem.F.plainAttrs_list PySem.F.slot_list_append PySem.F.type_list_append mt_append (pv 5) (pa_cons (pe_tup (pa_cons (pe_op op_catA (pv 6) (pe_tup (pa_cons (pv 8) pa_nil))) (pa_cons (pe_op op_and (pv 7) (pe_ix ix_list (pe_fld (pv 0) rfl) (pv 8) (fun _ _ => rfl))) pa_nil))) pa_nil)))) pss_nil)))))
        (pss_one (ps_set (i := 3) scCho.nd rfl (Or.inl rfl) (pv 5))))))
      (pss_one (ps_ret (pe_lc (own := [("chosen", 6), ("fitting", 7)]) (g := gTup K 2 (gCons (gName 6) (gCons (gName 7) gNil))) (tt := tYes) (te := tVar 6) rfl scCho.nd (pi_list (pv 3)) (blkOk_by (own := [("chosen", 6), ("fitting", 7)]) (N := nCho) (sc := defScope sCho) (by decide +kernel))
        (fun _ _ _ _ _ => pg_tup rfl (pgs_cons (pg_name (i := 6) scCho.nd rfl (Or.inl rfl)) (pgs_cons (pg_name (i := 7) scCho.nd rfl (Or.inl rfl)) pgs_nil))) (fun _ _ _ _ _ => pts_nil) (fun _ _ _ _ _ => pv 6))))), ?_⟩
    refine ⟨by show 0 ≤ sizeLine; decide, fun p1 n1 => ⟨_, rfl, by show 2 ≤ sizeLine; decide, fun p2 n2 => ⟨by show 1 ≤ sizeLine; decide, fun p3 n3 => ?_⟩⟩⟩
    have s3 : Same H (upd (upd (upd H p1 (.tup [])) p2 (.tup [.ref p1, natV near])) p3 (.lst [.ref p2])) := snew (snew (snew (Same.refl _) n1) n2) n3
    refine ⟨_, rfl, pl, rfl, ⟨_, SqL.of (s3 _ _ gpl)⟩, for_list (K := K) (a := pl) (xs := nats ps) (fun i σ H' => Same H H' ∧ ∃ (R : Addr) (as : List Addr), (∃ v4 v5 v6 v7 v8, σ = [some (.ref x), some (.ref pl), some (natV near), some (.ref R), v4, v5, v6, v7, v8]) ∧ H R = none ∧ H' R = some (.lst (as.map V.ref)) ∧ AllAt (RowAt H') as ((ps.take i).foldl (Nu.rowsStep (fun p => (U[p]?).getD []) B) [([], near)])) ?_ ?_ ?_ ?_⟩
    · refine ⟨s3, p3, [p2], ⟨_, _, _, _, _, rfl⟩, (snew (snew (Same.refl _) n1) n2).free n3, upd_same, ?_⟩
      rw [List.take_zero]
      refine AllAt.snoc (as := []) (xs := []) AllAt.nil ⟨p1, ?_, ?_⟩
      · rw [upd_ne (ne_of_none upd_same n3), upd_same]
      · have h12 : p1 ≠ p2 := ne_of_none upd_same n2
        show upd _ p3 _ p1 = _
        rw [upd_ne (ne_of_none ((upd_ne h12).trans upd_same) n3), upd_ne h12, upd_same]
        rfl
    · rintro i σ H' _ ⟨s1, _⟩
      exact SqL.of (s1 _ _ gpl)
    · rintro i y σ H1 hi ⟨s1, R, as, ⟨v4, v5, v6, v7, v8, rfl⟩, nR, gR, hR⟩
      obtain ⟨p, hp, rfl⟩ := nats_get hi
      have hpU := hps p (List.mem_of_getElem? hp)
      obtain ⟨ua, hua, gua⟩ := hU.get (List.getElem?_eq_getElem hpU)
      have eU : (U[p]?).getD [] = U[p] := by rw [List.getElem?_eq_getElem hpU]; rfl
      have enext : (ps.take (i + 1)).foldl (Nu.rowsStep (fun p => (U[p]?).getD []) B) [([], near)] = ((ps.take i).foldl (Nu.rowsStep (fun p => (U[p]?).getD []) B) [([], near)]).flatMap (stepRow U[p] B) := by
        rw [take1 hp, List.foldl_append, List.foldl_cons, List.foldl_nil]
        show List.flatMap (stepRow ((U[p]?).getD []) B) _ = _
        rw [eU]
      have hbig' := hbig (i + 1)
      have hlong := rows_long (U := fun p => (U[p]?).getD []) (B := B) (ps.take i) [([], near)] 0 (by simp)
      rw [List.length_take] at hlong
      rw [enext] at hbig' ⊢
      generalize (ps.take i).foldl (Nu.rowsStep (fun p => (U[p]?).getD []) B) [([], near)] = RR at hR hbig' hlong ⊢
      refine ⟨by show 0 ≤ sizeLine; decide, fun L nL => ?_⟩
      have nLH : H L = none := s1.free nL
      have sL : Same H1 (upd H1 L (.lst [])) := snew (Same.refl _) nL
      refine ⟨_, rfl, R, rfl, ⟨_, SqL.of (sL _ _ gR)⟩, for_list (K := K) (a := R) (xs := as.map V.ref) (fun j σ H' => Same H1 H' ∧ (∃ v6 v7 v8, σ = [some (.ref x), some (.ref pl), some (natV near), some (.ref R), some (natV p), some (.ref L), v6, v7, v8]) ∧ ∃ ls : List Addr, H' L = some (.lst (ls.map V.ref)) ∧ AllAt (RowAt H') ls ((RR.take j).flatMap (stepRow U[p] B))) ⟨sL, ⟨_, _, _, rfl⟩, [], upd_same, AllAt.nil⟩ (fun j σ H' _ h => SqL.of (h.1 _ _ gR)) ?_ ?_⟩
      · rintro j y σ H2 hj ⟨s2, ⟨v6, v7, v8, rfl⟩, ls, gL, hL⟩
        rw [List.getElem?_map] at hj
        obtain ⟨ra, hra, rfl⟩ := Option.map_eq_some_iff.mp hj
        obtain ⟨r, hr', b, hb1, hb2⟩ := hR.get' hra
        refine ⟨ra, _, rfl, SqT.of (s2 _ _ hb1), rfl, _, _, rfl, _, _, rfl, rfl, ?_⟩
        refine ⟨_, rfl, x, CU, dx, fs, _, rfl, s2 _ _ (s1 _ _ hx), TU.cl, TU.no _ (by decide +kernel), f2, _, rfl, usb, _, _, V.ref ua, rfl, rfl, SqL.of (s2 _ _ (s1 _ _ gus)), atI_nat (by rw [List.getElem?_map, hua]; rfl), ua, rfl, ⟨_, SqL.of (s2 _ _ (s1 _ _ gua))⟩, ?_⟩
        refine for_list (K := K) (a := ua) (xs := nats U[p]) (fun k σ H' => Same H1 H' ∧ (∃ v8, σ = [some (.ref x), some (.ref pl), some (natV near), some (.ref R), some (natV p), some (.ref L), some (.ref b), some (natV r.2), v8]) ∧ ∃ ls : List Addr, H' L = some (.lst (ls.map V.ref)) ∧ AllAt (RowAt H') ls ((RR.take j).flatMap (stepRow U[p] B) ++ stepRow (U[p].take k) B r)) ⟨s2, ⟨_, rfl⟩, ls, gL, by rw [List.take_zero]; show AllAt _ _ (_ ++ []); rw [List.append_nil]; exact hL⟩ (fun k σ H' _ h => SqL.of (h.1 _ _ (s1 _ _ gua))) ?_ ?_
        · rintro k y σ H3 hk ⟨s3', ⟨v8', rfl⟩, ls3, gL3, hL3⟩
          obtain ⟨c, hc, rfl⟩ := nats_get hk
          have hcB := hlt _ (List.getElem_mem hpU) c (List.mem_of_getElem? hc)
          refine ⟨_, rfl, _, rfl, r.2, c, rfl, _, rfl, ?_⟩
          have tk : stepRow (U[p].take (k + 1)) B r = stepRow (U[p].take k) B r ++ if r.2.testBit c = true then [(r.1 ++ [c], r.2 &&& (B[c]?).getD 0)] else [] := by
            unfold stepRow
            rw [filter_take hc, List.map_append]
            by_cases t : r.2.testBit c = true
            · rw [if_pos t, if_pos t]; rfl
            · rw [if_neg t, if_neg t]; rfl
          cases t : r.2.testBit c with
          | false =>
            rw [t] at tk
            refine iteF ⟨s3', ⟨_, rfl⟩, ls3, gL3, ?_⟩
            rw [tk, if_neg (by simp), List.append_nil]
            exact hL3
          | true =>
            rw [t, if_pos rfl] at tk
            refine iteT ⟨_, rfl, .inl ⟨rfl, _, SqL.of gL3⟩, _, rfl, _, rfl, by show 1 ≤ sizeLine; decide, fun q1 m1 => ?_⟩
            have sq : Same H3 (upd H3 q1 (.tup [natV c])) := snew (Same.refl _) m1
            have len : ls3.length < sizeLine := by
              rw [hL3.len]
              refine big8 (Nat.le_trans ?_ hbig')
              refine Nat.le_trans ?_ (flat_len (stepRow U[p] B) hr')
              rw [List.length_append]
              refine Nat.add_le_add_left ?_ _
              unfold stepRow
              rw [List.length_map, List.length_map]
              exact (List.Sublist.filter _ (List.take_sublist _ _)).length_le
            have fin : ∀ (q2 : Addr) (H4 : Hp), Same H3 H4 → TupAt H4 q2 (r.1 ++ [c]) → ∀ q3, H4 q3 = none → Same H1 (upd (upd H4 q3 (.tup [.ref q2, natV (r.2 &&& (B[c]?).getD 0)])) L (.lst (ls3.map V.ref ++ [.ref q3]))) ∧ (∃ v8, ([some (.ref x), some (.ref pl), some (natV near), some (.ref R), some (natV p), some (.ref L), some (.ref b), some (natV r.2), some (natV c)] : L2.St) = [some (.ref x), some (.ref pl), some (natV near), some (.ref R), some (natV p), some (.ref L), some (.ref b), some (natV r.2), v8]) ∧ ∃ ls : List Addr, upd (upd H4 q3 (.tup [.ref q2, natV (r.2 &&& (B[c]?).getD 0)])) L (.lst (ls3.map V.ref ++ [.ref q3])) L = some (.lst (ls.map V.ref)) ∧ AllAt (RowAt (upd (upd H4 q3 (.tup [.ref q2, natV (r.2 &&& (B[c]?).getD 0)])) L (.lst (ls3.map V.ref ++ [.ref q3])))) ls ((RR.take j).flatMap (stepRow U[p] B) ++ stepRow (U[p].take (k + 1)) B r) := by
              intro q2 H4 s4 g4 q3 m3
              have gL4 : H4 L = some (.lst (ls3.map V.ref)) := s4 _ _ gL3
              have h3L : q3 ≠ L := Ne.symm (ne_of_none gL4 m3)
              have sn : Same H4 (upd H4 q3 (.tup [.ref q2, natV (r.2 &&& (B[c]?).getD 0)])) := snew (Same.refl _) m3
              have kL : Keep [L] H3 (upd (upd H4 q3 (.tup [.ref q2, natV (r.2 &&& (B[c]?).getD 0)])) L (.lst (ls3.map V.ref ++ [.ref q3]))) := Keep.upd (Keep.same (s4.trans sn)) (Or.inl (by simp))
              refine ⟨Same.upd' ((s3'.trans s4).trans sn) nL, ⟨_, rfl⟩, ls3 ++ [q3], by rw [upd_same, List.map_append]; rfl, ?_⟩
              rw [tk, ← List.append_assoc]
              refine AllAt.snoc (hL3.mono fun a r' _ h => h.keep kL gL3) ⟨q2, ?_, ?_⟩
              · rw [upd_ne h3L, upd_same]
              · have h2L : q2 ≠ L := fun e => by
                  rw [e] at g4
                  rw [show H4 L = _ from g4] at gL4
                  cases gL4
                show upd _ L _ q2 = _
                rw [upd_ne h2L]
                exact sn _ _ g4
            have band : Builtin.bitAnd ((r.2 : Nat) : Int) (((B[c]?).getD 0 : Nat) : Int) = ((r.2 &&& (B[c]?).getD 0 : Nat) : Int) := and_nats _ _
            have atB : atI (nats B) (c : Int) = some (natV ((B[c]?).getD 0)) := by
              rw [nats_getD hcB, List.getElem?_eq_getElem hcB]
              rfl
            refine ⟨b, q1, nats r.1, [natV c], rfl, rfl, SqT.of (sq _ _ (s3' _ _ hb2)), SqT.of upd_same, ?_, ?_, fun _ h => (by cases h), ?_⟩
            · have := hlong r (List.mem_of_getElem? hr')
              rw [nats_len]
              exact sz400 (show r.1.length + 1 ≤ 1000 by have := (List.getElem?_eq_some_iff.mp hp).1; omega)
            · intro e0
              have e0 : r.1 = [] := List.map_eq_nil_iff.mp e0
              refine ⟨_, rfl, _, rfl, x, CU, dx, fs, _, rfl, sq _ _ (s3' _ _ (s1 _ _ hx)), TU.cl, TU.no _ (by decide +kernel), f1, _, rfl, bes, _, _, _, rfl, rfl, SqL.of (sq _ _ (s3' _ _ (s1 _ _ gb))), atB, _, _, rfl, rfl, by show 2 ≤ sizeLine; decide, fun q3 m3 => ⟨L, ls3.map V.ref, .ref q3, rfl, rfl, ?_, ?_, ?_⟩⟩
              · exact (snew sq m3) _ _ gL3
              · rw [List.length_map]; exact len
              · dsimp only
                rw [band]
                exact fin q1 _ sq (by rw [e0]; exact upd_same) q3 m3
            · intro _ _ q2 m2
              have sq2 : Same H3 (upd (upd H3 q1 (.tup [natV c])) q2 (.tup (nats r.1 ++ [natV c]))) := snew sq m2
              refine ⟨_, rfl, _, rfl, x, CU, dx, fs, _, rfl, sq2 _ _ (s3' _ _ (s1 _ _ hx)), TU.cl, TU.no _ (by decide +kernel), f1, _, rfl, bes, _, _, _, rfl, rfl, SqL.of (sq2 _ _ (s3' _ _ (s1 _ _ gb))), atB, _, _, rfl, rfl, by show 2 ≤ sizeLine; decide, fun q3 m3 => ⟨L, ls3.map V.ref, .ref q3, rfl, rfl, ?_, ?_, ?_⟩⟩
              · exact (snew sq2 m3) _ _ gL3
              · rw [List.length_map]; exact len
              · dsimp only
                rw [band]
                exact fin q2 _ sq2 (upd_same.trans (by rw [nats_app]; rfl)) q3 m3
        · rintro σ H3 ⟨s3', ⟨v8', rfl⟩, ls3, gL3, hL3⟩
          rw [nats_len, List.take_length] at hL3
          exact ⟨s3', ⟨_, _, _, rfl⟩, ls3, gL3, by rw [flat_take _ hr']; exact hL3⟩
      · rintro σ H2 ⟨s2, ⟨v6, v7, v8, rfl⟩, ls, gL, hL⟩
        rw [List.length_map, hR.len, List.take_length] at hL
        exact ⟨_, rfl, s1.trans s2, L, ls, ⟨_, _, _, _, _, rfl⟩, nLH, gL, hL⟩
    · rintro σ H1 ⟨s1, R, as, ⟨v4, v5, v6, v7, v8, rfl⟩, nR, gR, hR⟩
      have hb := hbig (nats ps).length
      rw [nats_len, List.take_length] at hR hb
      refine ⟨_, rfl, R, rfl, ⟨_, SqL.of gR⟩, fun D nD => ?_⟩
      refine lc_it (walk_list (K := K) (a := R) (xs := as.map V.ref)) (fun j H' => Same H1 H' ∧ ∃ bs : List Addr, H' D = some (.lst (bs.map V.ref)) ∧ AllAt (TupAt H') bs (((ps.foldl (Nu.rowsStep (fun p => (U[p]?).getD []) B) [([], near)]).take j).map (·.1))) ⟨snew (Same.refl _) nD, [], upd_same, AllAt.nil⟩ (fun j H' _ h => SqL.of (h.1 _ _ gR)) ?_ ?_
      · rintro j y H2 H2' hj ⟨s2, bs, gD, hD⟩ ⟨rfl, hy⟩
        rw [List.getElem?_map] at hy
        obtain ⟨ra, hra, rfl⟩ := Option.map_eq_some_iff.mp hy
        obtain ⟨r, hr', b, hb1, hb2⟩ := hR.get' hra
        refine ⟨ra, _, rfl, SqT.of (s2 _ _ hb1), rfl, _, _, rfl, _, _, rfl, rfl, rfl, ?_⟩
        unfold tYes
        dsimp only
        rw [if_pos rfl]
        refine ⟨_, rfl, _, gD, ?_, Same.upd' s2 nD, bs ++ [b], by rw [upd_same, List.map_append]; rfl, ?_⟩
        · rw [List.length_map, hD.len, List.length_map, List.length_take]
          exact big8 (Nat.le_trans (Nat.min_le_right _ _) hb)
        · rw [take1 hr', List.map_append]
          refine AllAt.snoc (hD.mono fun a r' _ h => ?_) ?_
          · have hne : a ≠ D := fun e => by
              rw [e] at h
              rw [show H2' D = _ from h] at gD
              cases gD
            exact (upd_ne hne).trans h
          · have hne : b ≠ D := fun e => by
              have := s2 _ _ hb2
              rw [e, gD] at this
              cases this
            exact (upd_ne hne).trans (s2 _ _ hb2)
      · rintro H2 ⟨s2, bs, gD, hD⟩
        rw [List.length_map, hR.len, List.take_length] at hD
        exact q H2 D bs (s1.trans s2) (s1.free nD) gD hD
end
end NuP
end
/-! # NuP14 -/
section
set_option Elab.async false
set_option maxRecDepth 100000
set_option maxHeartbeats 4000000
set_option linter.all false
namespace NuP
open PySem PySem.Spec PyProof.Rows L2
/-! ### possible_with -/
def KeyAt (H : Hp) (a : Addr) (z : Nu.PKey) : Prop := ∃ b, H a = some (.tup [natV z.1, natV z.2.1, .ref b]) ∧ TupAt H b z.2.2
theorem KeyAt.same {H H' : Hp} {a : Addr} {z : Nu.PKey} (h : KeyAt H a z) (s : Same H H') : KeyAt H' a z := by
  obtain ⟨b, h1, h2⟩ := h
  exact ⟨b, s _ _ h1, s _ _ h2⟩
theorem KeyAt.keep {H H' : Hp} {a l : Addr} {r : Nu.PKey} {xs : List V} (h : KeyAt H a r) (k : Keep [l] H H') (hl : H l = some (.lst xs)) : KeyAt H' a r := by
  obtain ⟨b, h1, h2⟩ := h
  refine ⟨b, k _ _ h1 fun q => ?_, k _ _ h2 fun q => ?_⟩
  · rw [List.mem_singleton.mp q, hl] at h1
    cases h1
  · rw [List.mem_singleton.mp q] at h2
    rw [show H l = _ from h2] at hl
    cases hl
def possRow (U : Nat → List Nat) (B made : List Nat) (near : Nat) (nd : List Nat → List Nat) (x : Sq63.Transition × Nat) : List Nu.PKey :=
  ((Nu.choicesP U B x.1.takes near).filter fun used => used.any fun c => made.contains c).map fun used => ((nd used).length + 1, x.2, used)
def nearOf (B made : List Nat) : Nat := (B[made.headD 0]?).getD 0 ||| 2 ^ made.headD 0
def possD (U : Nat → List Nat) (B : List Nat) (ts : List Sq63.Transition) (made : List Nat) (nd : List Nat → List Nat) : List Nu.PKey := if made.length = 0 then [] else ts.zipIdx.flatMap (possRow U B made (nearOf B made) nd)
theorem zip_at {α : Type} {l : List α} {i : Nat} {x : α} (h : l[i]? = some x) : l.zipIdx[i]? = some (x, i) := by
  rw [List.getElem?_zipIdx, h]
  simp
section
variable {P : Program} {w : World} {K : PySem.W.Frag} {mg : Str → Option Value} {base : Heap}
abbrev sPos : Stmt := inClass (top 20) 12
abbrev nPos : List Str := ["self", "made", "near", "possible", "number", "transition", "used", "condition"]
theorem scPos : FnScope nPos ["self", "made"] (defScope sPos) := ⟨rfl, rfl, rfl, by decide +kernel, rfl, by decide +kernel, by decide +kernel⟩
def spPos (CU CN CT CC CE : Addr) (K : PySem.W.Frag) : Sp := fun vs H Q _ => ∃ (x dx md net dn tl mA cds evs bes usb : Addr) (fs : List (Str × V)) (n : Nat) (made B : List Nat) (us as cs es : List Addr) (U : List (List Nat)) (ts : List Sq63.Transition) (cd : List (Nat × Int)) (D : List EvD) (nd : List Nat → List Nat),
  vs = [.ref x, .ref md] ∧ H x = some (.ins CU dx fs) ∧ fs.map (·.1) = uN ∧ Has fs "net" (.ref net) ∧ Has fs "conditions" (.ref cds) ∧ Has fs "events" (.ref evs) ∧ Has fs "beside" (.ref bes) ∧ Has fs "usable" (.ref usb) ∧
  ListAt H md made ∧ H net = some (.ins CN dn (netF n tl mA)) ∧ H tl = some (.lst (as.map V.ref)) ∧ AllAt (TrAt CT H) as ts ∧ ListAt H bes B ∧ H usb = some (.lst (us.map V.ref)) ∧ AllAt (ListAt H) us U ∧
  H cds = some (.lst (cs.map V.ref)) ∧ H evs = some (.lst (es.map V.ref)) ∧ AllAt (CdAt CC H) cs cd ∧ AllAt (EvAt CE H) es D ∧ (∀ d, d ∈ D → d.needs.length ≤ 100) ∧
  (∀ t, t ∈ ts → ∀ p, p ∈ t.takes → p < U.length) ∧ (∀ l, l ∈ U → ∀ c, c ∈ l → c < B.length) ∧ B.length ≤ 1000 ∧ (∀ c, c ∈ made → c < B.length) ∧
  (∀ t, t ∈ ts → ∀ k, ((t.takes.take k).foldl (Nu.rowsStep (fun p => (U[p]?).getD []) B) [([], nearOf B made)]).length ≤ 6 ^ 8) ∧
  (∀ t, t ∈ ts → ∀ ls, ls ∈ Nu.choicesP (fun p => (U[p]?).getD []) B t.takes (nearOf B made) → ls.length ≤ 20 ∧ (∀ c, c ∈ ls → ∃ p m, cd[c]? = some (p, m) ∧ (m = -1 ∨ ∃ e : Nat, m = (e : Int) ∧ e < D.length)) ∧ (nd ls).Pairwise (· < ·) ∧ (nd ls).length < 64 ∧ (∀ z, z ∈ nd ls ↔ ∃ c, c ∈ ls ∧ Need cd D c z)) ∧
  (possD (fun p => (U[p]?).getD []) B ts made nd).length ≤ 8 * 6 ^ 8 ∧
  ∀ (H' : Hp) (p : Addr) (ks : List Addr), Same H H' → H p = none → H' p = some (.lst (ks.map V.ref)) → AllAt (KeyAt H') ks (possD (fun p => (U[p]?).getD []) B ts made nd) → Q (.ref p) H'
theorem ok_pos {CU CN CT CC CE f fC fN : Addr} {fd fdC fdN : FuncData} (F : Fun K "possible_with" "Unfolding.possible_with" sPos f fd) (TU : ClsT K mg "Unfolding" CU uN) (TN : ClsT K mg "Net" CN ["places", "transitions", "marking"]) (TT : ClsT K mg "Transition" CT ["takes", "puts"])
    (gLen : mg "len" = none) (gAny : mg "any" = none) (gEnu : mg "enumerate" = none)
    (GC : FnOk P w K mg base CX0 2 fC fdC ["self", "places", "near"] (spCho CU K)) (bC : Binds K fdC ["self", "places", "near"] []) (mC : Meth K CU "choices" fC)
    (GN : FnOk P w K mg base CX0 1 fN fdN ["self", "conditions"] (spNed CU CC CE K)) (bN : Binds K fdN ["self", "conditions"] []) (mN : Meth K CU "needed_to_make" fN) : FnOk P w K mg base CX0 3 f fd ["self", "made"] (spPos CU CN CT CC CE K) := by
  refine F.ok scPos (fun vs H Q E h => ?_) (fun cdv A outer s H vs Q E hr h => ?_)
  · obtain ⟨x, dx, md, net, dn, tl, mA, cds, evs, bes, usb, fs, n, made, B, us, as, cs, es, U, ts, cd, D, nd, rfl, _⟩ := h
    rfl
  · obtain ⟨x, dx, md, net, dn, tl, mA, cds, evs, bes, usb, fs, n, made, B, us, as, cs, es, U, ts, cd, D, nd, rfl, hx, hfs, f1, f2, f3, f4, f5, gmd, gnet, gtl, hT, gb, gus, hU, gc, ge, hC, hE, hnd, hps, hlt, hB, hmade, hbig, hned, htot, q⟩ := h
    have hr1 : Room 1 _ := hr.mono (by decide)
    refine ⟨_, pss_cons (ps_if (pt_cmpR op_eq (pe_callB call_len_seq (by rfl) gLen PySem.boot_len (pa_cons (pv 1) pa_nil)) pe_int (nomark _)) (pss_one (ps_ret (pe_lst pa_nil))) pss_nil)
      (pss_cons (ps_set (i := 2) scPos.nd rfl (Or.inl rfl) (pe_op op_or (pe_ix ix_list (pe_fld (pv 0) rfl) (pe_ix ix_list (pv 1) pe_int (fun _ _ => rfl)) (fun _ _ => rfl)) (pe_op op_shl pe_int (pe_ix ix_list (pv 1) pe_int (fun _ _ => rfl)))))
      (pss_cons (ps_set (i := 3) scPos.nd rfl (Or.inl rfl) (pe_lst pa_nil))
      (pss_cons (ps_for PassesOwn.never rfl (pi_enum (by rfl) gEnu (pa_cons (pe_fld (pe_fld (pv 0) rfl) rfl) pa_nil)) (pg_tup rfl (pgs_cons (pg_name (i := 4) scPos.nd rfl (Or.inl rfl)) (pgs_cons (pg_name (i := 5) scPos.nd rfl (Or.inl rfl)) pgs_nil)))
        (pss_one (ps_for PassesOwn.never rfl (pi_list (pe_meth (pv 0) TU.cl mC GC hr bC .nil pass0 (pa_cons (pe_fld (pv 5) rfl) (pa_cons (pv 2) pa_nil)))) (pg_name (i := 6) scPos.nd rfl (Or.inl rfl))
          (pss_one (ps_if (pt_val (pe_callB (cr_any rfl) (by rfl) gAny (by decide +kernel) (pa_cons (pe_lc (own := [("condition", 7)]) (g := gName 7) (tt := tYes) (te := tOp (rIn K false) (tVar 7) (tVar 1)) rfl scPos.nd (pi_tup (pv 6)) (blkOk_by (own := [("condition", 7)]) (N := nPos) (sc := defScope sPos) (by decide +kernel))
              (fun _ _ _ _ _ => pg_name (i := 7) scPos.nd rfl (Or.inl rfl)) (fun _ _ _ _ _ => pts_nil) (fun _ _ _ _ _ => pe_cmpR (r := rIn K false) op_in_seq (pv 7) (pv 1) (by rfl))) pa_nil)))
            (pss_one (ps_expr (pe_bm PySem.F.plainAttrs_list PySem.F.slot_list_append PySem.F.type_list_append mt_append (pv 3) (pa_cons (pe_tup (pa_cons (pe_op op_add (pe_callB call_len_seq (by rfl) gLen PySem.boot_len (pa_cons (pe_meth (pv 0) TU.cl mN GN hr1 bN .nil pass0 (pa_cons (pv 6) pa_nil)) pa_nil)) pe_int) (pa_cons (pv 4) (pa_cons (pv 6) pa_nil)))) pa_nil)))) pss_nil)))))
      (pss_one (ps_ret (pv 3)))))), ?_⟩
    refine ⟨_, rfl, md, _, rfl, .inl (SqL.of gmd), rfl, _, rfl, ?_⟩
    rw [nats_len]
    cases made with
    | nil =>
      refine iteT ⟨by show 0 ≤ sizeLine; decide, fun p np => ?_⟩
      exact q _ p [] (snew (Same.refl _) np) np upd_same AllAt.nil
    | cons m0 mr =>
      have hm0 := hmade m0 (by simp)
      have atB : atI (nats B) (m0 : Int) = some (natV ((B[m0]?).getD 0)) := by
        rw [nats_getD hm0, List.getElem?_eq_getElem hm0]
        rfl
      refine ite2 (fun c => absurd c (by simp; omega)) (fun _ => ?_)
      refine ⟨_, rfl, x, CU, dx, fs, _, rfl, hx, TU.cl, TU.no _ (by decide +kernel), f4, _, rfl, md, _, _, natV m0, rfl, rfl, SqL.of gmd, atI_nat (j := 0) rfl, bes, _, _, _, rfl, rfl, SqL.of gb, atB, _, rfl, md, _, _, natV m0, rfl, rfl, SqL.of gmd, atI_nat (j := 0) rfl, _, _, rfl, rfl, ⟨by omega, by omega, by decide⟩, _, _, rfl, rfl, ?_⟩
      have hnear : Builtin.bitOr (((B[m0]?).getD 0 : Nat) : Int) (1 * 2 ^ ((m0 : Nat) : Int).toNat) = ((nearOf B (m0 :: mr) : Nat) : Int) := by
        rw [Int.one_mul, Int.toNat_natCast, show (2 : Int) ^ m0 = ((2 ^ m0 : Nat) : Int) by rw [Int.natCast_pow]; rfl, or_nats]
        rfl
      dsimp only
      rw [hnear]
      have hD' : possD (fun p => (U[p]?).getD []) B ts (m0 :: mr) nd = ts.zipIdx.flatMap (possRow (fun p => (U[p]?).getD []) B (m0 :: mr) (nearOf B (m0 :: mr)) nd) := if_neg (by simp)
      rw [hD'] at htot q
      generalize hmm : m0 :: mr = made at *
      generalize hnn : nearOf B made = near at *
      refine ⟨by show 0 ≤ sizeLine; decide, fun L nL => ?_⟩
      have sL : Same H (upd H L (.lst [])) := snew (Same.refl _) nL
      refine ⟨_, rfl, x, CU, dx, fs, _, rfl, sL _ _ hx, TU.cl, TU.no _ (by decide +kernel), f1, net, CN, dn, _, _, rfl, sL _ _ gnet, TN.cl, TN.no _ (by decide +kernel), look (ns := ["places", "transitions", "marking"]) 1 rfl (by decide +kernel) rfl, tl, _, rfl, SqL.of (sL _ _ gtl), ?_⟩
      refine for_it (walk_enum (K := K) (a := tl) (xs := as.map V.ref)) (fun i σ H' => Same H H' ∧ (∃ v4 v5 v6 v7, σ = [some (.ref x), some (.ref md), some (natV near), some (.ref L), v4, v5, v6, v7]) ∧ ∃ ks : List Addr, H' L = some (.lst (ks.map V.ref)) ∧ AllAt (KeyAt H') ks ((ts.zipIdx.take i).flatMap (possRow (fun p => (U[p]?).getD []) B made near nd))) ⟨sL, ⟨_, _, _, _, rfl⟩, [], upd_same, AllAt.nil⟩ (fun i σ H' _ h => SqL.of (h.1 _ _ gtl)) ?_ ?_
      · rintro i y σ H1 H1' hi ⟨s1, ⟨v4, v5, v6, v7, rfl⟩, ks, gL, hK⟩ ⟨T, a, b, rfl, nT, rfl, ha, hb⟩
        cases ha
        have hb : (as.map V.ref)[i]? = some b := hb
        rw [List.getElem?_map] at hb
        obtain ⟨ta, hta, rfl⟩ := Option.map_eq_some_iff.mp hb
        obtain ⟨t, ht, htr⟩ := hT.get' hta
        obtain ⟨dt, tk, pt, h1, h2, h3, h4, h5⟩ := id htr.ex
        have hz := zip_at ht
        have hmt := List.mem_of_getElem? ht
        have s1' : Same H (upd H1 T (.tup [.int (i : Nat), .ref ta])) := snew s1 nT
        have gL1 : upd H1 T (.tup [.int (i : Nat), .ref ta]) L = some (.lst (ks.map V.ref)) := (snew (Same.refl _) nT) _ _ gL
        have hK1 : AllAt (KeyAt (upd H1 T (.tup [.int (i : Nat), .ref ta]))) ks ((ts.zipIdx.take i).flatMap (possRow (fun p => (U[p]?).getD []) B made near nd)) := hK.mono fun a z _ h => h.same (snew (Same.refl _) nT)
        generalize hH2 : upd H1 T (.tup [.int (i : Nat), .ref ta]) = H2 at *
        refine ⟨T, _, rfl, SqT.of (by rw [← hH2]; exact upd_same), rfl, _, _, rfl, _, _, rfl, rfl, ?_⟩
        refine ⟨_, rfl, x, dx, fs, rfl, s1' _ _ hx, nolook hfs (by decide +kernel), _, rfl, ta, CT, dt, _, _, rfl, s1' _ _ h1, TT.cl, TT.no _ (by decide +kernel), look (ns := ["takes", "puts"]) 0 rfl (by decide +kernel) rfl, _, rfl,
          x, dx, tk, bes, usb, fs, t.takes, B, us, U, near, rfl, s1' _ _ hx, f4, f5, s1' _ _ h2, s1' _ _ gb, s1' _ _ gus, hU.mono (fun a l _ h => s1' _ _ h), hps t hmt, hlt, by omega, hbig t hmt, fun H3 p3 as3 s3 n3 g3 h3' => ?_⟩
        have sc : ∀ H', Same H3 H' → Same H H' := fun H' k => (s1'.trans s3).trans k
        have hn' := hned t hmt
        have htl := flat_len (possRow (fun p => (U[p]?).getD []) B made near nd) hz
        have epr : possRow (fun p => (U[p]?).getD []) B made near nd (t, i) = ((Nu.choicesP (fun p => (U[p]?).getD []) B t.takes near).filter fun used => used.any fun c => made.contains c).map fun used => ((nd used).length + 1, i, used) := rfl
        rw [flat_take _ hz]
        rw [epr] at htl ⊢
        generalize Nu.choicesP (fun p => (U[p]?).getD []) B t.takes near = CH at *
        have sb : Same H2 H3 := s3
        have p3L : p3 ∉ [L] := fun e => by
          rw [List.mem_singleton] at e
          rw [e, gL1] at n3
          cases n3
        have gL3 : H3 L = some (.lst (ks.map V.ref)) := s3 _ _ gL1
        refine ⟨p3, rfl, ⟨_, SqL.of g3⟩, for_list (K := K) (a := p3) (xs := as3.map V.ref) (fun j σ H' => (Keep [L] H3 H' ∧ Same H H') ∧ (∃ v6 v7, σ = [some (.ref x), some (.ref md), some (natV near), some (.ref L), some (natV i), some (.ref ta), v6, v7]) ∧ ∃ ks : List Addr, H' L = some (.lst (ks.map V.ref)) ∧ AllAt (KeyAt H') ks ((ts.zipIdx.take i).flatMap (possRow (fun p => (U[p]?).getD []) B made near nd) ++ ((CH.take j).filter fun used => used.any fun c => made.contains c).map fun used => ((nd used).length + 1, i, used))) ?_ ?_ ?_ ?_⟩
        · refine ⟨⟨Keep.same (Same.refl _), sc _ (Same.refl _)⟩, ⟨_, _, rfl⟩, ks, s3 _ _ gL1, ?_⟩
          rw [List.take_zero]
          show AllAt _ _ (_ ++ [])
          rw [List.append_nil]
          exact hK1.mono fun a z _ h => h.same s3
        · rintro j σ H4 _ ⟨⟨s4, _⟩, _⟩
          exact SqL.of (s4 _ _ g3 p3L)
        · rintro j y σ H4 hj ⟨⟨s4, sH4⟩, ⟨v6', v7', rfl⟩, ks4, gL4, hK4⟩
          rw [List.getElem?_map] at hj
          obtain ⟨ua, hua, rfl⟩ := Option.map_eq_some_iff.mp hj
          obtain ⟨used, hus, gu⟩ := h3'.get' hua
          obtain ⟨u20, umk, urs, ul, um⟩ := hn' used (List.mem_of_getElem? hus)
          have gu4 : TupAt H4 ua used := s4 _ _ gu fun e => by
            rw [List.mem_singleton] at e
            rw [e] at gu
            rw [show H3 L = _ from gu] at gL3
            cases gL3
          refine ⟨_, rfl, ua, rfl, ⟨_, SqT.of gu4⟩, fun D1 nD1 => ?_⟩
          refine lc_fmT (xs := nats used) (p := fun _ => true) (f := fun v => .bl (inV v (nats made))) nD1 (SqT.of gu4) (by rw [nats_len]; exact sz400 (by omega)) (fun H s5 => SqT.of (s5 _ _ gu4)) (fun x => rfl) (fun j x H Q _ _ h => h) (fun j x H Q hx _ s5 h => ?_) fun H5 s5 g5 => ?_
          · obtain ⟨c, hc, rfl⟩ := nats_get hx
            exact ⟨_, rfl, _, rfl, md, _, rfl, .inl (SqL.of (s5 _ _ (sH4 _ _ gmd))), rfl, flat_nats _, h⟩
          · rw [filter_yes, map_in] at g5
            refine ⟨D1, used.map fun c => made.contains c, rfl, SqL.of g5, _, rfl, ?_⟩
            have ea : (used.map fun c => made.contains c).any id = used.any fun c => made.contains c := by rw [List.any_map]; rfl
            rw [ea]
            have tkj := filter_take (p := fun used : List Nat => used.any fun c => made.contains c) hus
            have sH5 : Same H H5 := sH4.trans s5
            cases t7 : used.any fun c => made.contains c with
            | false =>
              rw [t7, if_neg (by simp)] at tkj
              refine iteF ⟨⟨s4.trans (Keep.same s5), sH5⟩, ⟨_, _, rfl⟩, ks4, s5 _ _ gL4, ?_⟩
              rw [tkj, List.append_nil]
              exact hK4.mono fun a z _ h => h.same s5
            | true =>
              rw [t7, if_pos rfl] at tkj
              refine iteT ⟨_, rfl, .inl ⟨rfl, _, SqL.of (s5 _ _ gL4)⟩, _, rfl, x, dx, fs, rfl, sH5 _ _ hx, nolook hfs (by decide +kernel), _, rfl,
                x, dx, ua, cds, evs, false, fs, used, nd used, cs, es, cd, D, rfl, sH5 _ _ hx, f2, f3, SqT.of (s5 _ _ gu4), sH5 _ _ gc, sH5 _ _ ge, hC.mono (fun a d _ h => CdAt.same h sH5), hE.mono (fun a d _ h => EvAt.same h sH5), Nat.le_trans u20 (by decide), hnd, umk, urs, ul, um, fun H6 p6 s6 n6 g6 => ?_⟩
              refine ⟨p6, _, rfl, .inl (SqL.of g6), _, _, rfl, rfl, _, rfl, _, rfl, by show 3 ≤ sizeLine; decide, fun q3 m3 => ⟨L, ks4.map V.ref, .ref q3, rfl, rfl, ?_, ?_, ?_⟩⟩
              · exact (snew s6 m3) _ _ (s5 _ _ gL4)
              · rw [List.length_map, hK4.len]
                refine Nat.lt_of_le_of_lt (Nat.le_trans ?_ (Nat.le_trans htl htot)) (show 8 * 6 ^ 8 < sizeLine by decide)
                rw [List.length_append]
                refine Nat.add_le_add_left ?_ _
                rw [List.length_map, List.length_map]
                exact (List.Sublist.filter _ (List.take_sublist _ _)).length_le
              · dsimp only
                rw [nats_len]
                have s6' : Same H4 (upd H6 q3 (.tup [.int (((nd used).length : Int) + 1), natV i, .ref ua])) := (s5.trans s6).trans (snew (Same.refl _) m3)
                have gL6 : H6 L = some (.lst (ks4.map V.ref)) := s6 _ _ (s5 _ _ gL4)
                have h3L : q3 ≠ L := Ne.symm (ne_of_none gL6 m3)
                have kL : Keep [L] H4 (upd (upd H6 q3 (.tup [.int (((nd used).length : Int) + 1), natV i, .ref ua])) L (.lst (ks4.map V.ref ++ [.ref q3]))) := Keep.upd (Keep.same s6') (Or.inl (by simp))
                refine ⟨?_, ⟨_, _, rfl⟩, ks4 ++ [q3], by rw [upd_same, List.map_append]; rfl, ?_⟩
                · exact ⟨s4.trans kL, Same.upd' (sH4.trans s6') nL⟩
                · rw [tkj, List.map_append, ← List.append_assoc]
                  refine AllAt.snoc (hK4.mono fun a r' _ h => h.keep kL gL4) ⟨ua, ?_, ?_⟩
                  · rw [upd_ne h3L, upd_same]
                    rfl
                  · have h2L : ua ≠ L := fun e => by
                      have gu4 : H4 ua = _ := gu4
                      rw [e, gL4] at gu4
                      cases gu4
                    show upd _ L _ ua = _
                    rw [upd_ne h2L]
                    exact s6' _ _ gu4
        · rintro σ H4 ⟨⟨s4, sH4⟩, ⟨v6', v7', rfl⟩, ks4, gL4, hK4⟩
          rw [List.length_map, h3'.len, List.take_length] at hK4
          exact ⟨sH4, ⟨_, _, _, _, rfl⟩, ks4, gL4, hK4⟩
      · rintro σ H1 ⟨s1, ⟨v4, v5, v6, v7, rfl⟩, ks, gL, hK⟩
        rw [List.length_map, hT.len, List.take_of_length_le (by simp)] at hK
        exact ⟨_, rfl, q H1 L ks s1 nL gL hK⟩
end
end NuP
end
/-! # NuLink -/
section
set_option linter.all false
namespace Nu
open Sq63
variable {g : Net} {m0 : Places} {u v : Unfolding} {t : Nat} {cs : List Nat} {tr : Transition} {off : Bool}
/-- the last of them, behind -/
theorem insert_last {n : Nat} : ∀ {l : List Nat}, (∀ x, x ∈ l → x < n) → Sq63.insert n l = l ++ [n]
  | [], _ => rfl
  | b :: l, h => by
    have := h b (by simp)
    unfold Sq63.insert
    rw [if_neg (by omega), if_neg (by omega), insert_last fun x hx => h x (by simp [hx])]
    rfl
theorem cut_old (G : Grow u v t cs tr off) {C : List Nat} (hC : ∀ e, e ∈ C → e < u.events.length) : cut v C = cut u C := by
  have hcl := G.clen
  refine rise_ext (List.Pairwise.filter _ List.pairwise_lt_range) (List.Pairwise.filter _ List.pairwise_lt_range) fun c => ?_
  rw [mem_cut, mem_cut]
  by_cases h : c < u.conds.length
  · rw [G.maker_old h]
    constructor
    · rintro ⟨_, h2, h3⟩
      exact ⟨h, h2, fun e he => by rw [← G.used_old (hC e he)]; exact h3 e he⟩
    · rintro ⟨_, h2, h3⟩
      exact ⟨by omega, h2, fun e he => by rw [G.used_old (hC e he)]; exact h3 e he⟩
  · constructor
    · rintro ⟨h1, h2, _⟩
      have := hC _ (h2 _ (G.maker_new (by omega) h1))
      omega
    · rintro ⟨h1, _⟩
      omega
theorem marking_old (G : Grow u v t cs tr off) {C : List Nat} (hC : ∀ e, e ∈ C → e < u.events.length) : markingOf v C = markingOf u C := by
  show (cut v C).foldl (fun s c => Sq63.insert (placeOf v c) s) [] = (cut u C).foldl (fun s c => Sq63.insert (placeOf u c) s) []
  rw [cut_old G hC]
  have : ∀ (l s : List Nat), (∀ c, c ∈ l → c < u.conds.length) → l.foldl (fun s c => Sq63.insert (placeOf v c) s) s = l.foldl (fun s c => Sq63.insert (placeOf u c) s) s := by
    intro l
    induction l with
    | nil => intro s _; rfl
    | cons a l ih =>
      intro s h
      rw [List.foldl_cons, List.foldl_cons, G.place_old (h a (by simp)), ih _ fun c hc => h c (by simp [hc])]
  exact this _ _ fun c hc => (mem_cut.mp hc).1
/-- what the program does to tell the marking -/
structure MarkOk (u : Unfolding) (C : List Nat) : Prop where
  lt : ∀ c, c ∈ firstOf u ∨ c ∈ C.flatMap (madeOf u) → c < u.conds.length
  nd : (C.flatMap (usedOf u)).Nodup
  sub : ∀ c, c ∈ C.flatMap (usedOf u) → c ∈ firstOf u ∨ c ∈ C.flatMap (madeOf u)
  cut : ∀ c, c ∈ cut u C ↔ (c ∈ firstOf u ∨ c ∈ C.flatMap (madeOf u)) ∧ c ∉ C.flatMap (usedOf u)
theorem used_nodup (A : Good g m0 u) (N : NetOk g m0) {e : Nat} : (usedOf u e).Nodup := by
  cases h : u.events[e]? with
  | none => unfold usedOf; rw [h]; simp
  | some x =>
    rw [usedOf_some h]
    obtain ⟨t, ht, hp⟩ := (A.ev e x h).tr
    have := rise_nodup (N.takes t (List.mem_of_getElem? ht))
    rw [← hp] at this
    rw [List.Nodup, List.pairwise_map] at this
    exact this.imp fun q e => q (by rw [e])
theorem mark_ok (A : Good g m0 u) (N : NetOk g m0) {C : List Nat} (h : Cfg u C) : MarkOk u C := by
  refine ⟨?_, ?_, ?_, ?_⟩
  · rintro c (hc | hc)
    · exact Grow.first_lt hc
    · obtain ⟨e, _, hc⟩ := List.mem_flatMap.mp hc
      exact Grow.made_lt hc
  · have : ∀ l : List Nat, l.Pairwise (· < ·) → (∀ e, e ∈ l → e ∈ C) → (l.flatMap (usedOf u)).Nodup := by
      intro l
      induction l with
      | nil => intros; simp
      | cons a l ih =>
        intro hp hs
        rw [List.pairwise_cons] at hp
        rw [List.flatMap_cons, List.nodup_append]
        refine ⟨used_nodup A N, ih hp.2 fun e he => hs e (by simp [he]), ?_⟩
        intro c hc d hd q
        subst q
        obtain ⟨f, hf, hcf⟩ := List.mem_flatMap.mp hd
        exact h.cf ⟨a, hs a (by simp), f, hs f (by simp [hf]), by have := hp.1 f hf; omega, c, hc, hcf⟩
    exact this C h.rise fun _ z => z
  · intro c hc
    obtain ⟨e, he, hce⟩ := List.mem_flatMap.mp hc
    obtain ⟨x, hx, hcx⟩ := used_ev hce
    have E := A.ev e x hx
    have hl := E.lt c hcx
    cases hm : makerOf u c with
    | none => exact Or.inl (mem_first.mpr ⟨hl, hm⟩)
    | some f =>
      refine Or.inr (List.mem_flatMap.mpr ⟨f, ?_, mem_made.mpr ⟨hl, hm⟩⟩)
      refine h.dc e he f ?_
      rw [needsE_some hx, E.needs]
      refine mem_insert.mpr (Or.inr (mem_needAll.mpr ⟨c, hcx, ?_⟩))
      rw [needsOf_some hm]
      exact A.needsE_self (A.mkr c f hm)
  · intro c
    rw [mem_cut]
    constructor
    · rintro ⟨h1, h2, h3⟩
      refine ⟨?_, fun q => ?_⟩
      · cases hm : makerOf u c with
        | none => exact Or.inl (mem_first.mpr ⟨h1, hm⟩)
        | some f => exact Or.inr (List.mem_flatMap.mpr ⟨f, h2 f hm, mem_made.mpr ⟨h1, hm⟩⟩)
      · obtain ⟨e, he, hce⟩ := List.mem_flatMap.mp q
        exact h3 e he hce
    · rintro ⟨h1, h2⟩
      refine ⟨?_, fun e he => ?_, fun e he hc => h2 (List.mem_flatMap.mpr ⟨e, he, hc⟩)⟩
      · rcases h1 with h1 | h1
        · exact Grow.first_lt h1
        · obtain ⟨e, _, hc⟩ := List.mem_flatMap.mp h1
          exact Grow.made_lt hc
      · rcases h1 with h1 | h1
        · rw [(mem_first.mp h1).2] at he
          cases he
        · obtain ⟨f, hf, hc⟩ := List.mem_flatMap.mp h1
          rw [(mem_made.mp hc).2] at he
          cases he
          exact hf
theorem mark_uniq (A : Good g m0 u) (N : NetOk g m0) (S : Safe g m0) {C : List Nat} (h : Cfg u C) {T r : List Nat} (hT : T.Nodup) (hm : ∀ c, c ∈ T ↔ (c ∈ firstOf u ∨ c ∈ C.flatMap (madeOf u)) ∧ c ∉ C.flatMap (usedOf u)) (hp : r.Perm (T.map (placeOf u))) (hs : r.Pairwise (· ≤ ·)) : r = markingOf u C :=
  marking_of (cfg_all A N S C.length C rfl h).1 hT (fun c => by rw [hm c, (mark_ok A N h).cut c]) hp hs
/-- a new event's needs -/
theorem new_cfg (G : Grow u v t cs tr off) (A : Good g m0 u) (P : Poss g u t cs) (ht : g.ts[t]? = some tr) : Cfg v (Sq63.insert u.events.length (needAll u cs)) := by
  have := local_cfg (G.good A P ht) (e := u.events.length) (by rw [G.elen]; omega)
  rwa [G.needsE_new] at this
theorem new_needs (A : Good g m0 u) : Sq63.insert u.events.length (needAll u cs) = needAll u cs ++ [u.events.length] := insert_last fun x hx => Grow.needAll_lt A hx
end Nu
end
/-! # NuP15 -/
section
set_option Elab.async false
set_option maxRecDepth 100000
set_option maxHeartbeats 4000000
set_option linter.all false
namespace NuP
open PySem PySem.Spec PyProof.Rows L2
open Sq63 (Net Places Transition Unfolding)
variable {g : Net} {m0 : Places} {u v : Unfolding} {t : Nat} {cs : List Nat} {tr : Transition} {off : Bool}
def evD (u : Unfolding) : List EvD := u.events.mapIdx fun e x => ⟨x.t, x.used, Nu.madeOf u e, x.needs, Sq63.markingOf u x.needs, x.cut⟩
def mkI : Option Nat → Int
  | none => -1
  | some e => (e : Int)
def cdD (u : Unfolding) : List (Nat × Int) := u.conds.map fun c => (c.place, mkI c.by_)
def usD (g : Net) (u : Unfolding) : List (List Nat) := (List.range g.n).map (Nu.usableOf u)
theorem evD_len : (evD u).length = u.events.length := List.length_mapIdx ..
theorem cdD_len : (cdD u).length = u.conds.length := List.length_map ..
theorem usD_len : (usD g u).length = g.n := by unfold usD; rw [List.length_map, List.length_range]
theorem evD_get (e : Nat) : (evD u)[e]? = (u.events[e]?).map fun x => ⟨x.t, x.used, Nu.madeOf u e, x.needs, Sq63.markingOf u x.needs, x.cut⟩ := List.getElem?_mapIdx ..
theorem cdD_get (c : Nat) : (cdD u)[c]? = (u.conds[c]?).map fun c => (c.place, mkI c.by_) := List.getElem?_map ..
theorem usD_get {p : Nat} (h : p < g.n) : (usD g u)[p]? = some (Nu.usableOf u p) := by
  unfold usD
  rw [List.getElem?_map, List.getElem?_range h]
  rfl
theorem placeD_eq (c : Nat) : placeD (cdD u) c = Nu.placeOf u c := by
  unfold placeD Nu.placeOf
  rw [cdD_get]
  cases u.conds[c]? <;> rfl
theorem cd_made {c : Nat} (A : Nu.Good g m0 u) (h : c < u.conds.length) : ∃ p m, (cdD u)[c]? = some (p, m) ∧ (m = -1 ∨ ∃ e : Nat, m = (e : Int) ∧ e < (evD u).length) := by
  refine ⟨_, _, by rw [cdD_get, List.getElem?_eq_getElem h]; rfl, ?_⟩
  cases q : (u.conds[c]).by_ with
  | none => exact Or.inl rfl
  | some e =>
    refine Or.inr ⟨e, rfl, ?_⟩
    rw [evD_len]
    refine A.mkr c e ?_
    unfold Nu.makerOf
    rw [List.getElem?_eq_getElem h]
    exact q
theorem need_iff {c z : Nat} : Need (cdD u) (evD u) c z ↔ z ∈ Sq63.needsOf u c := by
  unfold Need
  constructor
  · rintro ⟨p, e, d, h1, h2, h3⟩
    rw [cdD_get] at h1
    rw [evD_get] at h2
    obtain ⟨x, hx, hxe⟩ := Option.map_eq_some_iff.mp h1
    obtain ⟨y, hy, hye⟩ := Option.map_eq_some_iff.mp h2
    subst hye
    have hm : x.by_ = some e := by
      have := (Prod.mk.inj hxe).2
      cases q : x.by_ with
      | none => rw [q] at this; have : (-1 : Int) = (e : Int) := this; omega
      | some f => rw [q] at this; have : (f : Int) = (e : Int) := this; exact congrArg some (by omega)
    have hk : Nu.makerOf u c = some e := by unfold Nu.makerOf; rw [hx]; exact hm
    rw [Nu.needsOf_some hk, Nu.needsE_some hy]
    exact h3
  · intro h
    obtain ⟨e, h1, h2⟩ := Nu.needsOf_mem h
    obtain ⟨x, hx, hz⟩ := Nu.needs_ev h2
    unfold Nu.makerOf at h1
    obtain ⟨y, hy, hm⟩ := Option.bind_eq_some_iff.mp h1
    refine ⟨y.place, e, _, ?_, by rw [evD_get, hx]; rfl, hz⟩
    rw [cdD_get, hy]
    show some (y.place, mkI y.by_) = _
    rw [hm]
    rfl
theorem needAll_iff {ls : List Nat} {z : Nat} : z ∈ Nu.needAll u ls ↔ ∃ c, c ∈ ls ∧ Need (cdD u) (evD u) c z := by
  rw [Nu.mem_needAll]
  simp only [need_iff]
/-! ### grown by one event -/
theorem cdD_grow (G : Nu.Grow u v t cs tr off) : cdD v = cdD u ++ tr.puts.map fun p => (p, ((u.events.length : Nat) : Int)) := by
  unfold cdD
  rw [G.conds, List.map_append, List.map_map]
  rfl
def newD (u v : Unfolding) (t : Nat) (cs : List Nat) (k : Nat) (off : Bool) : EvD := ⟨t, cs, List.range' u.conds.length k, Nu.needAll u cs ++ [u.events.length], Sq63.markingOf v (Nu.needAll u cs ++ [u.events.length]), off⟩
theorem evD_grow (G : Nu.Grow u v t cs tr off) (A : Nu.Good g m0 u) : evD v = evD u ++ [newD u v t cs tr.puts.length off] := by
  refine List.ext_getElem? fun e => ?_
  rw [evD_get]
  by_cases h : e < u.events.length
  · rw [List.getElem?_append_left (by rw [evD_len]; exact h), evD_get, G.ev_old h, List.getElem?_eq_getElem h]
    show some _ = some _
    dsimp only
    rw [G.made_old A h, Nu.marking_old G fun f hf => by have := (A.ev e _ (List.getElem?_eq_getElem h)).nle f hf; omega]
  · rw [List.getElem?_append_right (by rw [evD_len]; omega), evD_len]
    by_cases h2 : e = u.events.length
    · subst h2
      rw [G.ev_new, Nat.sub_self]
      show some _ = some _
      dsimp only
      rw [G.made_new A, Nu.new_needs A]
      rfl
    · have h3 : v.events[e]? = none := by rw [List.getElem?_eq_none_iff, G.elen]; omega
      rw [h3]
      have : ([newD u v t cs tr.puts.length off] : List EvD)[e - u.events.length]? = none := by
        rw [List.getElem?_eq_none_iff]
        show 1 ≤ _
        omega
      rw [this]
      rfl
theorem usD_grow (G : Nu.Grow u v t cs tr off) (A : Nu.Good g m0 u) : usD g v = if off = true then usD g u else (usD g u).mapIdx fun p l => l ++ (List.range' u.conds.length tr.puts.length).filter fun c => (((cdD v)[c]?).map (·.1)).getD 0 == p := by
  refine List.ext_getElem? fun p => ?_
  by_cases h : p < g.n
  · rw [usD_get h, Nu.usable_grow G A]
    cases off with
    | true => rw [if_pos rfl, if_pos rfl, usD_get h, List.append_nil]
    | false =>
      rw [if_neg (by simp), if_neg (by simp), List.getElem?_mapIdx, usD_get h]
      show some _ = some _
      refine congrArg (fun z => some (Nu.usableOf u p ++ z)) (List.filter_congr fun c _ => ?_)
      rw [← placeD_eq]
      rfl
  · rw [List.getElem?_eq_none (by rw [usD_len]; omega)]
    cases off with
    | true => rw [if_pos rfl, List.getElem?_eq_none (by rw [usD_len]; omega)]
    | false => rw [if_neg (by simp), List.getElem?_mapIdx, List.getElem?_eq_none (by rw [usD_len]; omega)]; rfl
theorem off_grow (A : Nu.Good g m0 u) (ht : g.ts[t]? = some tr) {k : Nat} {b : Bool} {D : EvD} (hD : D = newD u (Sq63.add g m0 u (t, (cs, Nu.needAll u cs))) t cs k b) : nothingNew m0 D (evD u ++ [D]) = Nu.offOf g m0 u t cs := by
  have G := Nu.add_grow (m0 := m0) (u := u) (cs := cs) ht
  unfold nothingNew
  rw [List.any_append]
  have e1 : ([D].any fun z => decide (z.needs.length < D.needs.length) && z.mark == D.mark) = false := by simp
  rw [e1, Bool.or_false]
  subst hD
  unfold Nu.offOf
  rw [Nu.new_needs A]
  show (_ == m0 || _) = (_ == m0 || _)
  congr 1
  unfold evD
  rw [Bool.eq_iff_iff, List.any_eq_true, List.any_eq_true]
  constructor
  · rintro ⟨z, hz, h⟩
    obtain ⟨e, he⟩ := List.mem_iff_getElem?.mp hz
    rw [List.getElem?_mapIdx] at he
    obtain ⟨x, hx, rfl⟩ := Option.map_eq_some_iff.mp he
    refine ⟨x, List.mem_of_getElem? hx, ?_⟩
    rw [Nu.marking_old G fun f hf => by have := (A.ev e x hx).nle f hf; have := (List.getElem?_eq_some_iff.mp hx).1; omega]
    exact h
  · rintro ⟨x, hx, h⟩
    obtain ⟨e, he⟩ := List.mem_iff_getElem?.mp hx
    refine ⟨_, List.mem_of_getElem? (i := e) (by rw [List.getElem?_mapIdx, he]; rfl), ?_⟩
    rw [Nu.marking_old G fun f hf => by have := (A.ev e x he).nle f hf; have := (List.getElem?_eq_some_iff.mp he).1; omega] at h
    exact h
end NuP
end
/-! # NuP16 -/
section
set_option Elab.async false
set_option maxRecDepth 100000
set_option maxHeartbeats 4000000
set_option linter.all false
namespace NuP
open PySem PySem.Spec PyProof.Rows L2
open Sq63 (Net Places Transition Unfolding)
/-! ### an unfolding in the heap -/
structure Lay where
  dx : Addr
  net : Addr
  dn : Addr
  tl : Addr
  mA : Addr
  evs : Addr
  cds : Addr
  bes : Addr
  usb : Addr
  fst : Addr
  as : List Addr
  es : List Addr
  cs : List Addr
  us : List Addr
def Lay.M (l : Lay) : List Addr := l.evs :: l.cds :: l.bes :: l.us
def uF (l : Lay) : List (Str × V) := [("net", .ref l.net), ("events", .ref l.evs), ("conditions", .ref l.cds), ("beside", .ref l.bes), ("usable", .ref l.usb), ("first_conditions", .ref l.fst)]
/-- what the program knows of the net -/
structure NetFit (g : Net) (m0 : Places) : Prop where
  n9 : g.n ≤ 9
  t8 : g.ts.length ≤ 8
  m0k : Sq63.placesOk g.n m0 = true
  tsk : ∀ t, t ∈ g.ts → Sq63.placesOk g.n t.takes = true ∧ Sq63.placesOk g.n t.puts = true ∧ t.takes ≠ []
  safe : Nu.Safe g m0
theorem NetFit.ok {g : Net} {m0 : Places} (h : NetFit g m0) : Nu.NetOk g m0 :=
  ⟨(Nu.placesOk_iff.mp h.m0k).1, fun t ht => (Nu.placesOk_iff.mp (h.tsk t ht).1).1, fun t ht => (Nu.placesOk_iff.mp (h.tsk t ht).2.1).1, fun t ht => (h.tsk t ht).2.2⟩
structure UnfAt (c : Cs) (l : Lay) (H : Hp) (x : Addr) (g : Net) (m0 : Places) (u : Unfolding) (B : List Nat) : Prop where
  ux : wo l.M H x = some (.ins c.U l.dx (uF l))
  un : wo l.M H l.net = some (.ins c.N l.dn (netF g.n l.tl l.mA))
  ut : wo l.M H l.tl = some (.lst (l.as.map V.ref))
  um : TupAt (wo l.M H) l.mA m0
  uT : AllAt (TrAt c.T (wo l.M H)) l.as g.ts
  ue : H l.evs = some (.lst (l.es.map V.ref))
  uc : H l.cds = some (.lst (l.cs.map V.ref))
  ub : ListAt H l.bes B
  uu : wo l.M H l.usb = some (.lst (l.us.map V.ref))
  uU : AllAt (ListAt H) l.us (usD g u)
  uf : ListAt (wo l.M H) l.fst (Nu.firstOf u)
  uE : AllAt (EvAt c.E (wo l.M H)) l.es (evD u)
  uC : AllAt (CdAt c.C (wo l.M H)) l.cs (cdD u)
  nd : l.M.Nodup
/-- what is known of what is unfolded so far -/
structure UnfOk (g : Net) (m0 : Places) (u : Unfolding) (B : List Nat) : Prop where
  good : Nu.Good g m0 u
  bes : Nu.Beside u B
  e40 : u.events.length ≤ 40
  csz : u.conds.length ≤ 9 + 9 * u.events.length
theorem UnfAt.lsts {c : Cs} {l : Lay} {H : Hp} {x : Addr} {g : Net} {m0 : Places} {u : Unfolding} {B : List Nat} (h : UnfAt c l H x g m0 u B) : ∀ b, b ∈ l.M → ∃ ys, H b = some (.lst ys) := fun b hb => by
  unfold Lay.M at hb
  rcases List.mem_cons.mp hb with rfl | hb
  · exact ⟨_, h.ue⟩
  rcases List.mem_cons.mp hb with rfl | hb
  · exact ⟨_, h.uc⟩
  rcases List.mem_cons.mp hb with rfl | hb
  · exact ⟨_, h.ub⟩
  · obtain ⟨i, hi⟩ := List.mem_iff_getElem?.mp hb
    obtain ⟨y, _, hy⟩ := h.uU.get' hi
    exact ⟨_, hy⟩
theorem UnfAt.fresh {c : Cs} {l : Lay} {H : Hp} {x : Addr} {g : Net} {m0 : Places} {u : Unfolding} {B : List Nat} (h : UnfAt c l H x g m0 u B) {a : Addr} (ha : H a = none) : a ∉ l.M := fun hm => by
  obtain ⟨ys, e⟩ := h.lsts a hm
  rw [ha] at e
  cases e
/-- what does not change stands behind a step that changes at most these -/
theorem Keep.at {M : List Addr} {H H' : Hp} (k : Keep M H H') {a : Addr} {o : HO} (h : NuP.wo M H a = some o) : H' a = some o := (wo_at (k.wo _ _ h)).1
theorem UnfAt.same {c : Cs} {l : Lay} {H H' : Hp} {x : Addr} {g : Net} {m0 : Places} {u : Unfolding} {B : List Nat} (h : UnfAt c l H x g m0 u B) (s : Same H H') : UnfAt c l H' x g m0 u B := by
  have w : Same (NuP.wo l.M H) (NuP.wo l.M H') := (Keep.same s).wo
  exact ⟨w _ _ h.ux, w _ _ h.un, w _ _ h.ut, w _ _ h.um, h.uT.mono fun a z _ q => q.same w, s _ _ h.ue, s _ _ h.uc, s _ _ h.ub, w _ _ h.uu, h.uU.mono fun a z _ q => s _ _ q, w _ _ h.uf, h.uE.mono fun a z _ q => q.same w, h.uC.mono fun a z _ q => CdAt.same q w, h.nd⟩
theorem Keep.both {M Z : List Addr} {H H' : Hp} (k : Keep M H H') : Keep M (NuP.wo Z H) (NuP.wo Z H') := fun b o e n => wo_mk (k b o (wo_at e).1 n) (wo_at e).2
theorem puts_len {g : Net} {m0 : Places} (N : NetFit g m0) {t : Transition} (ht : t ∈ g.ts) : t.takes.length ≤ 9 ∧ t.puts.length ≤ 9 := by
  have h1 := places_len (N.tsk t ht).1
  have h2 := places_len (N.tsk t ht).2.1
  have := N.n9
  omega
theorem AllAt.app {α : Type} {F : Addr → α → Prop} {as bs : List Addr} {xs ys : List α} (h : AllAt F as xs) (k : AllAt F bs ys) : AllAt F (as ++ bs) (xs ++ ys) := by
  refine ⟨by rw [List.length_append, List.length_append, h.len, k.len], fun i a x ha hx => ?_⟩
  by_cases q : i < as.length
  · rw [List.getElem?_append_left q] at ha
    rw [List.getElem?_append_left (by rw [← h.len]; exact q)] at hx
    exact h.at_ i a x ha hx
  · rw [List.getElem?_append_right (by omega)] at ha
    rw [List.getElem?_append_right (by rw [← h.len]; omega), ← h.len] at hx
    exact k.at_ _ a x ha hx
theorem usedD_last {D : List EvD} {d d' : EvD} (h : d.used = d'.used) (e : Nat) : usedD (D ++ [d]) e = usedD (D ++ [d']) e := by
  unfold usedD
  by_cases q : e < D.length
  · rw [List.getElem?_append_left q, List.getElem?_append_left q]
  · rw [List.getElem?_append_right (by omega), List.getElem?_append_right (by omega)]
    cases e - D.length with
    | zero => exact h
    | succ k => rfl
theorem madeD_last {D : List EvD} {d d' : EvD} (h : d.made = d'.made) (e : Nat) : madeD (D ++ [d]) e = madeD (D ++ [d']) e := by
  unfold madeD
  by_cases q : e < D.length
  · rw [List.getElem?_append_left q, List.getElem?_append_left q]
  · rw [List.getElem?_append_right (by omega), List.getElem?_append_right (by omega)]
    cases e - D.length with
    | zero => exact h
    | succ k => rfl
theorem usedD_eq {u : Unfolding} (e : Nat) : usedD (evD u) e = Nu.usedOf u e := by
  unfold usedD Nu.usedOf
  rw [evD_get]
  cases u.events[e]? <;> rfl
theorem madeD_eq {u : Unfolding} {e : Nat} (h : e < u.events.length) : madeD (evD u) e = Nu.madeOf u e := by
  unfold madeD
  rw [evD_get, List.getElem?_eq_getElem h]
  rfl
theorem flatMap_congr' {α β : Type} {f k : α → List β} : ∀ {l : List α}, (∀ a, a ∈ l → f a = k a) → l.flatMap f = l.flatMap k
  | [], _ => rfl
  | a :: l, h => by rw [List.flatMap_cons, List.flatMap_cons, h a (by simp), flatMap_congr' fun b hb => h b (by simp [hb])]
theorem rise_len {l : List Nat} {n : Nat} (h : l.Pairwise (· < ·)) (hl : ∀ x, x ∈ l → x < n) : l.length ≤ n := by
  have := Nu.nodup_sub_len (Nu.rise_nodup h) (L := List.range n) fun x hx => List.mem_range.mpr (hl x hx)
  rwa [List.length_range] at this
theorem evD_needs {g : Net} {m0 : Places} {u : Unfolding} (A : Nu.Good g m0 u) : ∀ d, d ∈ evD u → d.needs.length ≤ u.events.length := fun d hd => by
  obtain ⟨e, he⟩ := List.mem_iff_getElem?.mp hd
  rw [evD_get] at he
  obtain ⟨x, hx, rfl⟩ := Option.map_eq_some_iff.mp he
  have hl := (List.getElem?_eq_some_iff.mp hx).1
  exact rise_len (A.ev e x hx).rise fun f hf => by have := (A.ev e x hx).nle f hf; omega
theorem needAll_len {g : Net} {m0 : Places} {u : Unfolding} (A : Nu.Good g m0 u) (cs : List Nat) : (Nu.needAll u cs).length ≤ u.events.length := rise_len (Nu.needAll_rise _ _) fun x hx => Nu.Grow.needAll_lt A hx
theorem UnfOk.grow {g : Net} {m0 : Places} {u v : Unfolding} {B : List Nat} {t : Nat} {cs : List Nat} {tr : Transition} {off : Bool} (N : NetFit g m0) (h : UnfOk g m0 u B) (G : Nu.Grow u v t cs tr off) (P : Nu.Poss g u t cs) (ht : g.ts[t]? = some tr) (h40 : u.events.length < 40) (hne : cs ≠ []) : UnfOk g m0 v (Nu.grown_ B (Nu.common B cs) u.conds.length tr.puts.length) := by
  obtain ⟨tr', ht', F⟩ := P.fit
  have := puts_len N (List.mem_of_getElem? ht)
  refine ⟨G.good h.good P ht, Nu.beside_grow G h.good P h.bes fun d => Nu.common_bit h.bes hne F.lt d, by rw [G.elen]; omega, ?_⟩
  rw [G.clen, G.elen]
  have := h.csz
  omega
section
variable {P : Program} {w : World} {K : PySem.W.Frag} {mg : Str → Option Value} {base : Heap}
abbrev sAdd : Stmt := inClass (top 20) 10
abbrev nAdd : List Str := ["self", "transition", "used", "number", "needs", "common", "made", "event"]
theorem scAdd : FnScope nAdd ["self", "transition", "used"] (defScope sAdd) := ⟨rfl, rfl, rfl, by decide +kernel, rfl, by decide +kernel, by decide +kernel⟩
def spAdd (c : Cs) (K : PySem.W.Frag) : Sp := fun vs H Q _ => ∃ (x ua : Addr) (Z : List Addr) (l : Lay) (g : Net) (m0 : Places) (u : Unfolding) (B : List Nat) (t : Nat) (cs : List Nat), vs = [.ref x, natV t, .ref ua] ∧ UnfAt c l (wo Z H) x g m0 u B ∧ (∀ z, z ∈ Z → H z ≠ none) ∧ NetFit g m0 ∧ UnfOk g m0 u B ∧ TupAt (wo l.M (wo Z H)) ua cs ∧ Nu.Poss g u t cs ∧ u.events.length < 40 ∧
  ∀ (H' : Hp) (ea : Addr) (l' : Lay) (B' : List Nat), UnfAt c l' (wo Z H') x g m0 (Sq63.add g m0 u (t, (cs, Nu.needAll u cs))) B' → UnfOk g m0 (Sq63.add g m0 u (t, (cs, Nu.needAll u cs))) B' → l'.M = l.M → l'.es = l.es ++ [ea] → H ea = none → Keep l.M H H' → Q (.ref ea) H'
theorem ok_add {c : Cs} {f fN fB fM fE fK fW fL : Addr} {fd fdN fdB fdM fdE fdK fdW fdL : FuncData} (F : Fun K "add_event" "Unfolding.add_event" sAdd f fd) (TU : ClsT K mg "Unfolding" c.U uN) (TN : ClsT K mg "Net" c.N ["places", "transitions", "marking"]) (TT : ClsT K mg "Transition" c.T ["takes", "puts"]) (TE : ClsT K mg "Event" c.E evN) (gLen : mg "len" = none)
    (GN : FnOk P w K mg base CX0 1 fN fdN ["self", "conditions"] (spNed c.U c.C c.E K)) (bN : Binds K fdN ["self", "conditions"] []) (mN : Meth K c.U "needed_to_make" fN)
    (GB : FnOk P w K mg base CX0 1 fB fdB ["self", "conditions"] (spBes c.U K)) (bB : Binds K fdB ["self", "conditions"] []) (mB : Meth K c.U "beside_all" fB)
    (GM : FnOk P w K mg base CX0 3 fM fdM ["self", "places", "maker", "common"] (spMkc c.U c.C K)) (bM : Binds K fdM ["self", "places", "maker", "common"] []) (mM : Meth K c.U "make_conditions" fM)
    (GE : FnOk P w K mg base CX0 1 fE fdE nEvI (spEvI c.E)) (bE : Binds K fdE nEvI []) (mE : Mk K c.E fE)
    (GK : FnOk P w K mg base CX0 1 fK fdK ["self", "events"] (spMrk c.U c.C c.E K)) (bK : Binds K fdK ["self", "events"] []) (mK : Meth K c.U "marking_behind" fK)
    (GW : FnOk P w K mg base CX0 1 fW fdW ["self", "event"] (spNew c.U c.N c.E)) (bW : Binds K fdW ["self", "event"] []) (mW : Meth K c.U "is_nothing_new" fW)
    (GL : FnOk P w K mg base CX0 1 fL fdL ["self", "conditions"] (spLet c.U c.C K)) (bL : Binds K fdL ["self", "conditions"] []) (mL : Meth K c.U "let_use" fL) : FnOk P w K mg base CX0 4 f fd ["self", "transition", "used"] (spAdd c K) := by
  refine F.ok scAdd (fun vs H Q E h => ?_) (fun cdv A outer s H vs Q E hr h => ?_)
  · obtain ⟨x, ua, Z, l, g, m0, u, B, t, cs, rfl, _⟩ := h
    rfl
  · obtain ⟨x, ua, Z, l, g, m0, u, B, t, cs, rfl, U0, hZ, N, O, hua0, Po, h40, q⟩ := h
    have U := U0.same wo_same
    have hua : TupAt (wo l.M H) ua cs := wo_mk (wo_at (wo_at hua0).1).1 (wo_at hua0).2
    have nZ : ∀ {a : Addr}, H a = none → a ∉ Z := fun h e => hZ _ e h
    have hr1 : Room 1 _ := hr.mono (by decide)
    have hr2 : Room 2 _ := hr.mono (by decide)
    refine ⟨_, pss_cons (ps_set (i := 3) scAdd.nd rfl (Or.inl rfl) (pe_callB call_len_seq (by rfl) gLen PySem.boot_len (pa_cons (pe_fld (pv 0) rfl) pa_nil)))
      (pss_cons (ps_set (i := 4) scAdd.nd rfl (Or.inl rfl) (pe_op op_cat (pe_meth (pv 0) TU.cl mN GN hr1 bN .nil pass0 (pa_cons (pv 2) pa_nil)) (pe_lst (pa_cons (pv 3) pa_nil))))
      (pss_cons (ps_set (i := 5) scAdd.nd rfl (Or.inl rfl) (pe_meth (pv 0) TU.cl mB GB hr1 bB .nil pass0 (pa_cons (pv 2) pa_nil)))
      (pss_cons (ps_set (i := 6) scAdd.nd rfl (Or.inl rfl) (pe_meth (pv 0) TU.cl mM GM hr bM .nil pass0 (pa_cons (pe_fld (pe_ix ix_list (pe_fld (pe_fld (pv 0) rfl) rfl) (pv 1) (fun _ _ => rfl)) rfl) (pa_cons (pv 3) (pa_cons (pv 5) pa_nil)))))
      (pss_cons (ps_set (i := 7) scAdd.nd rfl (Or.inl rfl) (pe_make mE GE hr2 rfl TE.gl bE .nil pass0 (pa_cons (pv 1) (pa_cons (pv 2) (pa_cons (pv 6) (pa_cons (pv 4) pa_nil))))))
      (pss_cons (ps_expr (pe_bm PySem.F.plainAttrs_list PySem.F.slot_list_append PySem.F.type_list_append mt_append (pe_fld (pv 0) rfl) (pa_cons (pv 7) pa_nil)))
      (pss_cons (ps_fld (pv 7) (pe_meth (pv 0) TU.cl mK GK hr1 bK .nil pass0 (pa_cons (pv 4) pa_nil)) rfl)
      (pss_cons (ps_fld (pv 7) (pe_meth (pv 0) TU.cl mW GW hr1 bW .nil pass0 (pa_cons (pv 7) pa_nil)) rfl)
      (pss_cons (ps_if (pt_not (pt_val (pe_fld (pv 7) rfl))) (pss_one (ps_expr (pe_meth (pv 0) TU.cl mL GL hr1 bL .nil pass0 (pa_cons (pv 6) pa_nil)))) pss_nil)
      (pss_one (ps_ret (pv 7))))))))))), ?_⟩
    obtain ⟨tr, ht, Fi⟩ := id Po.fit
    have hcne : cs ≠ [] := fun e => by
      have := Fi.len
      rw [e] at this
      exact (N.tsk tr (List.mem_of_getElem? ht)).2.2 (List.eq_nil_of_length_eq_zero this.symm)
    have hpl := puts_len N (List.mem_of_getElem? ht)
    have hx := (wo_at U.ux).1
    have elen : l.es.length = u.events.length := by rw [U.uE.len, evD_len]
    have clen : l.cs.length = u.conds.length := by rw [U.uC.len, cdD_len]
    have fU : ∀ k i v, uN.findIdx? (· == k) = some i → (uF l)[i]?.map (·.2) = some v → Has (uF l) k v := fun k i v h1 h2 => look (ns := uN) i rfl h1 h2
    have nU : ∀ k, uN.any (· == k) = false → (uF l).lookup k = none := fun k h => nolook (ns := uN) rfl h
    have c20 : cs.length ≤ 20 := by rw [Fi.len]; omega
    have csz := O.csz
    refine ⟨_, rfl, x, c.U, l.dx, uF l, _, rfl, hx, TU.cl, TU.no _ (by decide +kernel), fU "events" 1 _ (by decide +kernel) rfl, l.evs, _, rfl, .inl (SqL.of U.ue), ?_⟩
    rw [List.length_map, elen]
    refine ⟨_, rfl, x, l.dx, uF l, rfl, hx, nU "needed_to_make" (by decide +kernel), _, rfl,
      x, l.dx, ua, l.cds, l.evs, false, uF l, cs, Nu.needAll u cs, l.cs, l.es, cdD u, evD u, rfl, hx, fU "conditions" 2 _ (by decide +kernel) rfl, fU "events" 1 _ (by decide +kernel) rfl, SqT.of (wo_at hua).1, U.uc, U.ue, U.uC.mono (fun a d _ h => CdAt.same h wo_same), U.uE.mono (fun a d _ h => EvAt.same h wo_same), Nat.le_trans c20 (by decide), ?_, fun d hd => cd_made O.good (Fi.lt d hd), Nu.needAll_rise _ _, ?_, fun z => needAll_iff, fun H1 p1 s1 n1 g1 => ?_⟩
    · intro d hd
      have := evD_needs O.good d hd
      omega
    · have := needAll_len O.good cs
      omega
    refine ⟨_, rfl, by show 1 ≤ sizeLine; decide, fun p2 n2 => ?_⟩
    refine ⟨p1, p2, _, _, rfl, rfl, (snew (Same.refl _) n2) _ _ g1, upd_same, ?_, fun p3 n3 => ?_⟩
    · have := needAll_len O.good cs
      rw [nats_len]
      exact sz400 (show _ + 1 ≤ 1000 by omega)
    have s3 : Same H (upd (upd H1 p2 (.lst [natV u.events.length])) p3 (.lst (nats (Nu.needAll u cs) ++ [natV u.events.length]))) := snew (snew s1 n2) n3
    have n3H : H p3 = none := (snew s1 n2).free n3
    have g3 : upd (upd H1 p2 (.lst [natV u.events.length])) p3 (.lst (nats (Nu.needAll u cs) ++ [natV u.events.length])) p3 = some (.lst (nats (Nu.needAll u cs ++ [u.events.length]))) := upd_same.trans (by rw [nats_app]; rfl)
    generalize upd (upd H1 p2 (.lst [natV u.events.length])) p3 (.lst (nats (Nu.needAll u cs) ++ [natV u.events.length])) = H3 at s3 g3 ⊢
    refine ⟨_, rfl, x, l.dx, uF l, rfl, s3 _ _ hx, nU "beside_all" (by decide +kernel), _, rfl,
      x, l.dx, ua, l.bes, uF l, cs, B, rfl, s3 _ _ hx, fU "beside" 3 _ (by decide +kernel) rfl, s3 _ _ U.ub, SqT.of (s3 _ _ (wo_at hua).1), hcne, fun d hd => by rw [O.bes.len]; exact Fi.lt d hd, ?_⟩
    obtain ⟨ta, hta, dt, tk, pt, h1, h2, h3, h4, h5⟩ : ∃ ta, l.as[t]? = some ta ∧ ∃ dt tk pt, wo l.M H ta = some (.ins c.T dt (trF tk pt)) ∧ wo l.M H tk = some (.lst (nats tr.takes)) ∧ wo l.M H pt = some (.lst (nats tr.puts)) ∧ tr.takes.length ≤ 400 ∧ tr.puts.length ≤ 400 := by
      obtain ⟨ta, hta, q⟩ := U.uT.get ht
      exact ⟨ta, hta, q.ex⟩
    have nd := U.nd
    unfold Lay.M at nd
    rw [List.nodup_cons, List.nodup_cons, List.nodup_cons] at nd
    have ecM : ∀ a, a ∈ [l.cds, l.bes] → a ∈ l.M := fun a ha => by
      unfold Lay.M
      rcases List.mem_cons.mp ha with e | e
      · rw [e]; simp
      · rw [List.mem_singleton.mp e]; simp
    have hcb : l.cds ≠ l.bes := fun e => nd.2.1 (by rw [e]; simp)
    have hptc : pt ∉ [l.cds, l.bes] := fun e => (wo_at h3).2 (ecM _ e)
    refine ⟨_, rfl, x, l.dx, uF l, rfl, s3 _ _ hx, nU "make_conditions" (by decide +kernel), _, rfl, x, c.U, l.dx, uF l, _, rfl, s3 _ _ hx, TU.cl, TU.no _ (by decide +kernel), fU "net" 0 _ (by decide +kernel) rfl, l.net, c.N, l.dn, _, _, rfl, s3 _ _ (wo_at U.un).1, TN.cl, TN.no _ (by decide +kernel), look (ns := ["places", "transitions", "marking"]) 1 rfl (by decide +kernel) rfl,
      _, rfl, l.tl, _, _, V.ref ta, rfl, rfl, SqL.of (s3 _ _ (wo_at U.ut).1), atI_nat (by rw [List.getElem?_map, hta]; rfl), ta, c.T, dt, _, _, rfl, s3 _ _ (wo_at h1).1, TT.cl, TT.no _ (by decide +kernel), look (ns := ["takes", "puts"]) 1 rfl (by decide +kernel) rfl, _, rfl, _, rfl,
      x, l.dx, pt, l.cds, l.bes, uF l, tr.puts, B, l.cs, (u.events.length : Int), Nu.common B cs, rfl, s3 _ _ hx, fU "conditions" 2 _ (by decide +kernel) rfl, fU "beside" 3 _ (by decide +kernel) rfl, .inl (SqL.of (wo_mk (s3 _ _ (wo_at h3).1) hptc)), s3 _ _ U.uc, s3 _ _ U.ub, hcb, by rw [O.bes.len, clen], by omega, fun H4 p4 cs' n4 g4 gc4 gb4 hC4 nc4 k4 => ?_⟩
    rw [clen] at g4 gb4
    have kM4 : Keep l.M H H4 := (Keep.same s3).trans (k4.mono ecM)
    have v_ : Unfolding := u
    generalize hv : Sq63.add g m0 u (t, (cs, Nu.needAll u cs)) = v at q
    have G : Nu.Grow u v t cs tr (Nu.offOf g m0 u t cs) := hv ▸ Nu.add_grow ht
    have Gv := G.good O.good Po ht
    have Cf := Nu.new_cfg G O.good Po ht
    rw [Nu.new_needs O.good] at Cf
    have n4H : H p4 = none := s3.free n4
    have eE := evD_grow G O.good
    have eC := cdD_grow G
    refine ⟨_, rfl, _, rfl, _, rfl, _, rfl, ?_⟩
    intro ev dxe nev ndx hne
    refine ⟨ev, dxe, ua, p4, p3, t, rfl, upd_same, fun H5 mk gev gmk mkne nmk kp => ?_⟩
    have s5 : Same H4 H5 := Same.made nev ndx fun b o e hb => kp b o e (by simpa using hb)
    have kM5 : Keep l.M H H5 := kM4.trans (Keep.same s5)
    have hevcb : l.evs ∉ [l.cds, l.bes] := fun e => nd.1 (by
      rcases List.mem_cons.mp e with e | e
      · rw [e]; simp
      · rw [List.mem_singleton.mp e]; simp)
    have nevH : H ev = none := (s3.trans (Same.refl _)).free ((k4.free (fun e => by
      rcases List.mem_cons.mp e with e | e
      · rw [e, gc4] at nev; cases nev
      · rw [List.mem_singleton.mp e, show H4 l.bes = _ from gb4] at nev; cases nev) nev))
    have evM : ev ∉ l.M := U.fresh nevH
    have p3M : p3 ∉ l.M := U.fresh n3H
    have p4M : p4 ∉ l.M := U.fresh n4H
    have evevs : l.evs ∈ l.M := by unfold Lay.M; simp
    have ge5 : H5 l.evs = some (.lst (l.es.map V.ref)) := s5 _ _ (k4 _ _ (s3 _ _ U.ue) hevcb)
    have gp3 : H5 p3 = some (.lst (nats (Nu.needAll u cs ++ [u.events.length]))) := s5 _ _ (k4 _ _ g3 fun e => p3M (ecM _ e))
    refine ⟨rfl, _, rfl, x, c.U, l.dx, uF l, _, rfl, kM5.at U.ux, TU.cl, TU.no _ (by decide +kernel), fU "events" 1 _ (by decide +kernel) rfl, .inl ⟨rfl, _, SqL.of ge5⟩, _, rfl, l.evs, l.es.map V.ref, .ref ev, rfl, rfl, ge5, ?_, ?_⟩
    · rw [List.length_map, elen]
      exact small1000 (by omega)
    have kM6 : Keep l.M H (upd H5 l.evs (.lst (l.es.map V.ref ++ [.ref ev]))) := Keep.upd kM5 (Or.inl evevs)
    have to6 : ∀ {a : Addr} {o : HO}, H5 a = some o → a ∉ l.M → upd H5 l.evs (.lst (l.es.map V.ref ++ [.ref ev])) a = some o := fun h n => (upd_ne fun e => n (by rw [e]; exact evevs)).trans h
    have ge6 : upd H5 l.evs (.lst (l.es.map V.ref ++ [.ref ev])) l.evs = some (.lst ((l.es ++ [ev]).map V.ref)) := by rw [upd_same, List.map_append]; rfl
    have gc6 : upd H5 l.evs (.lst (l.es.map V.ref ++ [.ref ev])) l.cds = some (.lst ((l.cs ++ cs').map V.ref)) := (upd_ne fun e => hevcb (by rw [← e]; simp)).trans (s5 _ _ gc4)
    have gb6 : ListAt (upd H5 l.evs (.lst (l.es.map V.ref ++ [.ref ev]))) l.bes (Nu.grown_ B (Nu.common B cs) u.conds.length tr.puts.length) := (upd_ne fun e => hevcb (by rw [← e]; simp)).trans (s5 _ _ gb4)
    have gu6 : AllAt (ListAt (upd H5 l.evs (.lst (l.es.map V.ref ++ [.ref ev])))) l.us (usD g u) := U.uU.mono fun a z ha h => by
      have h1 : a ∉ [l.cds, l.bes] := fun e => by
        rcases List.mem_cons.mp e with e | e
        · exact nd.2.1 (by rw [← e]; simp [ha])
        · exact nd.2.2.1 (by rw [← List.mem_singleton.mp e]; exact ha)
      have h2 : a ≠ l.evs := fun e => nd.1 (by rw [← e]; simp [ha])
      exact (upd_ne h2).trans (s5 _ _ (k4 _ _ (s3 _ _ h) h1))
    have gev6 := to6 gev evM
    have gp36 := to6 gp3 p3M
    have gp46 := to6 (s5 _ _ g4) p4M
    have nc4M : ∀ d, d ∈ cs' → d ∉ l.M := fun d hd => U.fresh (s3.free (nc4 d hd))
    have hC6 : AllAt (CdAt c.C (wo l.M (upd H5 l.evs (.lst (l.es.map V.ref ++ [.ref ev]))))) cs' (tr.puts.map fun q => (q, ((u.events.length : Nat) : Int))) := hC4.mono fun a z ha ⟨dd, h⟩ => ⟨dd, wo_mk (to6 (s5 _ _ h) (nc4M a ha)) (nc4M a ha)⟩
    have mkM : mk ∉ l.M := fun e => by
      have : ∃ ys, H5 mk = some (.lst ys) := by
        unfold Lay.M at e
        rcases List.mem_cons.mp e with e | e
        · rw [e]; exact ⟨_, ge5⟩
        rcases List.mem_cons.mp e with e | e
        · rw [e]; exact ⟨_, s5 _ _ gc4⟩
        rcases List.mem_cons.mp e with e | e
        · rw [e]; exact ⟨_, s5 _ _ gb4⟩
        · obtain ⟨i, hi⟩ := List.mem_iff_getElem?.mp e
          obtain ⟨z, _, hz⟩ := gu6.get' hi
          have h2 : mk ≠ l.evs := fun e' => nd.1 (by rw [← e']; simp [e])
          exact ⟨_, (upd_ne h2).symm.trans hz⟩
      obtain ⟨ys, hy⟩ := this
      rw [show H5 mk = _ from gmk] at hy
      cases hy
    have gmk6 := to6 gmk mkM
    generalize upd H5 l.evs (.lst (l.es.map V.ref ++ [.ref ev])) = H6 at kM6 ge6 gc6 gb6 gu6 gev6 gp36 gp46 hC6 gmk6 ⊢
    clear to6 kM5 gp3 ge5
    generalize hoff : Nu.offOf g m0 u t cs = off at *
    -- the last step
    have fin : ∀ H' : Hp, Keep l.M H H' → H' l.evs = some (.lst ((l.es ++ [ev]).map V.ref)) → H' l.cds = some (.lst ((l.cs ++ cs').map V.ref)) → ListAt H' l.bes (Nu.grown_ B (Nu.common B cs) u.conds.length tr.puts.length) → AllAt (ListAt H') l.us (usD g v) → EvAt c.E (wo l.M (wo Z H')) ev (newD u v t cs tr.puts.length off) → AllAt (CdAt c.C (wo l.M (wo Z H'))) cs' (tr.puts.map fun q => (q, ((u.events.length : Nat) : Int))) → Q (.ref ev) H' := by
      intro H' k a1 a2 a3 a4 a5 a6
      refine q H' ev { l with es := l.es ++ [ev], cs := l.cs ++ cs' } _ ?_ (O.grow N G Po ht h40 hcne) rfl rfl nevH k
      have kw : Same (wo l.M (wo Z H)) (wo l.M (wo Z H')) := k.both.wo
      refine ⟨kw _ _ U0.ux, kw _ _ U0.un, kw _ _ U0.ut, kw _ _ U0.um, U0.uT.mono fun a z _ h => h.same kw, wo_mk a1 (wo_at U0.ue).2, wo_mk a2 (wo_at U0.uc).2, wo_mk a3 (wo_at (show wo Z H l.bes = _ from U0.ub)).2, kw _ _ U0.uu, a4.mono fun a z ha h => ?_, ?_, ?_, ?_, U.nd⟩
      · obtain ⟨i, hi⟩ := List.mem_iff_getElem?.mp ha
        obtain ⟨y, _, hy⟩ := U0.uU.get' hi
        exact wo_mk h (wo_at (show wo Z H a = _ from hy)).2
      · rw [G.first_old]
        exact kw _ _ U0.uf
      · rw [eE]
        exact AllAt.snoc (U0.uE.mono fun a z _ h => h.same kw) a5
      · rw [eC]
        exact AllAt.app (U0.uC.mono fun a z _ h => CdAt.same h kw) a6
    have M6 := Nu.mark_ok Gv N.ok Cf
    have hC6' : AllAt (CdAt c.C H6) (l.cs ++ cs') (cdD v) := by
      rw [eC]
      exact AllAt.app (U.uC.mono fun a z _ h => CdAt.same h (kM6.wo.trans wo_same)) (hC6.mono fun a z _ h => CdAt.same h wo_same)
    have hE6 : ∀ d, EvAt c.E H6 ev d → AllAt (EvAt c.E H6) (l.es ++ [ev]) (evD u ++ [d]) := fun d hd => AllAt.snoc (U.uE.mono fun a z _ h => h.same (kM6.wo.trans wo_same)) hd
    have ed1 := hE6 ⟨t, cs, List.range' u.conds.length tr.puts.length, Nu.needAll u cs ++ [u.events.length], [], false⟩ ⟨dxe, ua, p4, p3, mk, gev6, kM6.at hua, gp46, gp36, gmk6⟩
    have lenE : ∀ d : EvD, (evD u ++ [d]).length = v.events.length := fun d => by rw [List.length_append, evD_len, G.elen]; rfl
    have fu : ∀ d : EvD, d.used = cs → (Nu.needAll u cs ++ [u.events.length]).flatMap (usedD (evD u ++ [d])) = (Nu.needAll u cs ++ [u.events.length]).flatMap (Nu.usedOf v) := fun d hd => flatMap_congr' fun e _ => by rw [← usedD_eq, eE]; exact usedD_last hd e
    have fm : ∀ d : EvD, d.made = List.range' u.conds.length tr.puts.length → (Nu.needAll u cs ++ [u.events.length]).flatMap (madeD (evD u ++ [d])) = (Nu.needAll u cs ++ [u.events.length]).flatMap (Nu.madeOf v) := fun d hd => flatMap_congr' fun e he => by rw [← madeD_eq (Cf.lt e he), eE]; exact madeD_last hd e
    have hx6 := kM6.at U.ux
    have hf6 : ListAt H6 l.fst (Nu.firstOf v) := by rw [G.first_old]; exact kM6.at U.uf
    refine ⟨_, rfl, x, l.dx, uF l, rfl, hx6, nU "marking_behind" (by decide +kernel), _, rfl,
      x, l.dx, p3, l.cds, l.evs, l.fst, true, uF l, Nu.needAll u cs ++ [u.events.length], Nu.firstOf v, Sq63.markingOf v (Nu.needAll u cs ++ [u.events.length]), l.cs ++ cs', l.es ++ [ev], cdD v, _, rfl, hx6, fU "conditions" 2 _ (by decide +kernel) rfl, fU "events" 1 _ (by decide +kernel) rfl, fU "first_conditions" 5 _ (by decide +kernel) rfl,
      SqL.of gp36, hf6, gc6, ge6, hC6', ed1, ?_, ?_, ?_, ?_, ?_, ?_, fun H7 p7 s7 n7 g7 => ?_⟩
    · rw [cdD_len, G.clen]; omega
    · intro e he; rw [lenE]; exact Cf.lt e he
    · rw [fm _ rfl, cdD_len]; exact M6.lt
    · rw [fu _ rfl]; exact M6.nd
    · rw [fu _ rfl, fm _ rfl]; exact M6.sub
    · rw [fu _ rfl, fm _ rfl]
      intro T r hT hm hp hs
      rw [show placeD (cdD v) = Nu.placeOf v from funext fun d => placeD_eq d] at hp
      exact Nu.mark_uniq Gv N.ok N.safe Cf hT hm hp hs
    have kM7 : Keep l.M H H7 := kM6.trans (Keep.same s7)
    refine ⟨_, rfl, ev, c.E, dxe, _, rfl, s7 _ _ gev6, TE.cl, TE.no _ (by decide +kernel), (by show 6 < 1000; decide), ?_⟩
    rw [show putF "marking" (.ref p7) (evF t ua p4 p3 mk false) = evF t ua p4 p3 p7 false from putA (ns := evN) 4 rfl (by decide +kernel)]
    have evp : ∀ {a : Addr} {xs : List V}, H7 a = some (.lst xs) → a ≠ ev := fun h e => by
      rw [e, s7 _ _ gev6] at h
      cases h
    have evq : ∀ {a : Addr} {xs : List V}, H7 a = some (.tup xs) → a ≠ ev := fun h e => by
      rw [e, s7 _ _ gev6] at h
      cases h
    -- what stands behind a change of the new event only
    have k8 : ∀ o, Keep l.M H (upd H7 ev o) := fun o => Keep.upd kM7 (Or.inr nevH)
    have to8 : ∀ {o : HO} {a : Addr} {xs : List V}, H7 a = some (.lst xs) → upd H7 ev o a = some (.lst xs) := fun h => (upd_ne (evp h)).trans h
    have tt8 : ∀ {o : HO} {a : Addr} {xs : List V}, H7 a = some (.tup xs) → upd H7 ev o a = some (.tup xs) := fun h => (upd_ne (evq h)).trans h
    have ev8 : ∀ b, EvAt c.E (upd H7 ev (.ins c.E dxe (evF t ua p4 p3 p7 b))) ev (newD u v t cs tr.puts.length b) := fun b => ⟨dxe, ua, p4, p3, p7, upd_same, tt8 (kM7.at hua), to8 (s7 _ _ gp46), to8 (s7 _ _ gp36), tt8 g7⟩
    have hE8 : AllAt (EvAt c.E (upd H7 ev (.ins c.E dxe (evF t ua p4 p3 p7 false)))) (l.es ++ [ev]) (evD u ++ [newD u v t cs tr.puts.length false]) := AllAt.snoc (U.uE.mono fun a z _ h => h.same ((k8 _).wo.trans wo_same)) (ev8 false)
    refine ⟨_, rfl, x, l.dx, uF l, rfl, (k8 _).at U.ux, nU "is_nothing_new" (by decide +kernel), _, rfl,
      x, l.dx, ev, l.evs, l.net, l.dn, l.tl, l.mA, uF l, g.n, m0, newD u v t cs tr.puts.length false, l.es ++ [ev], evD u ++ [newD u v t cs tr.puts.length false], rfl, (k8 _).at U.ux, fU "events" 1 _ (by decide +kernel) rfl, fU "net" 0 _ (by decide +kernel) rfl, (k8 _).at U.un, (k8 _).at U.um, ev8 false, to8 (s7 _ _ ge6), hE8, by rw [lenE, G.elen]; omega, fun H9 s9 => ?_⟩
    have eo : nothingNew m0 (newD u v t cs tr.puts.length false) (evD u ++ [newD u v t cs tr.puts.length false]) = off := by rw [← hoff]; exact off_grow O.good ht (k := tr.puts.length) (b := false) (by rw [hv])
    rw [eo]
    refine ⟨_, rfl, ev, c.E, dxe, _, rfl, s9 _ _ upd_same, TE.cl, TE.no _ (by decide +kernel), (by show 6 < 1000; decide), ?_⟩
    rw [show putF "is_cut_off" (.bl off) (evF t ua p4 p3 p7 false) = evF t ua p4 p3 p7 off from putA (ns := evN) 5 rfl (by decide +kernel)]
    have kM10 : Keep l.M H (upd H9 ev (.ins c.E dxe (evF t ua p4 p3 p7 off))) := Keep.upd ((k8 _).trans (Keep.same s9)) (Or.inr nevH)
    have to10 : ∀ {a : Addr} {xs : List V}, H7 a = some (.lst xs) → upd H9 ev (.ins c.E dxe (evF t ua p4 p3 p7 off)) a = some (.lst xs) := fun h => (upd_ne (evp h)).trans (s9 _ _ (to8 h))
    have tt10 : ∀ {a : Addr} {xs : List V}, H7 a = some (.tup xs) → upd H9 ev (.ins c.E dxe (evF t ua p4 p3 p7 off)) a = some (.tup xs) := fun h => (upd_ne (evq h)).trans (s9 _ _ (tt8 h))
    have p7M : p7 ∉ l.M := fun e => by
      have : ∃ ys, H6 p7 = some (.lst ys) := by
        unfold Lay.M at e
        rcases List.mem_cons.mp e with e | e
        · rw [e]; exact ⟨_, ge6⟩
        rcases List.mem_cons.mp e with e | e
        · rw [e]; exact ⟨_, gc6⟩
        rcases List.mem_cons.mp e with e | e
        · rw [e]; exact ⟨_, gb6⟩
        · obtain ⟨i, hi⟩ := List.mem_iff_getElem?.mp e
          obtain ⟨z, _, hz⟩ := gu6.get' hi
          exact ⟨_, hz⟩
      obtain ⟨ys, hy⟩ := this
      rw [n7] at hy
      cases hy
    have p7Z : p7 ∉ Z := nZ (kM6.free p7M n7)
    have ev10 : EvAt c.E (wo l.M (wo Z (upd H9 ev (.ins c.E dxe (evF t ua p4 p3 p7 off))))) ev (newD u v t cs tr.puts.length off) := ⟨dxe, ua, p4, p3, p7, wo_mk (wo_mk upd_same (nZ nevH)) evM, wo_mk (wo_mk (tt10 (kM7.at hua)) (wo_at (wo_at hua0).1).2) (wo_at hua).2, wo_mk (wo_mk (to10 (s7 _ _ gp46)) (nZ n4H)) p4M, wo_mk (wo_mk (to10 (s7 _ _ gp36)) (nZ n3H)) p3M, wo_mk (wo_mk (tt10 g7) p7Z) p7M⟩
    have nev6 : ∀ {a : Addr} {d : Nat × Int}, a ∈ cs' → a ≠ ev := fun {a d} ha e => by
      obtain ⟨i, hi⟩ := List.mem_iff_getElem?.mp ha
      obtain ⟨z, _, dd, hz⟩ := hC4.get' hi
      rw [e, nev] at hz
      cases hz
    have hC10 : AllAt (CdAt c.C (wo l.M (wo Z (upd H9 ev (.ins c.E dxe (evF t ua p4 p3 p7 off)))))) cs' (tr.puts.map fun q => (q, ((u.events.length : Nat) : Int))) := hC6.mono fun a z ha ⟨dd, h⟩ => ⟨dd, wo_mk (wo_mk ((upd_ne (nev6 (d := z) ha)).trans (s9 _ _ ((upd_ne (nev6 (d := z) ha)).trans (s7 _ _ (wo_at h).1)))) (nZ (s3.free (nc4 a ha)))) (nc4M a ha)⟩
    have ge10 := to10 (s7 _ _ ge6)
    have gc10 := to10 (s7 _ _ gc6)
    have gb10 := to10 (s7 _ _ gb6)
    have gp10 := to10 (s7 _ _ gp46)
    have gu10 : AllAt (ListAt (upd H9 ev (.ins c.E dxe (evF t ua p4 p3 p7 off)))) l.us (usD g u) := gu6.mono fun a z _ h => to10 (s7 _ _ h)
    have gev10 : upd H9 ev (.ins c.E dxe (evF t ua p4 p3 p7 off)) ev = some (.ins c.E dxe (evF t ua p4 p3 p7 off)) := upd_same
    have eU := usD_grow G O.good
    generalize upd H9 ev (.ins c.E dxe (evF t ua p4 p3 p7 off)) = H10 at kM10 ev10 hC10 ge10 gc10 gb10 gp10 gu10 gev10 ⊢
    clear to10 tt10
    refine ⟨_, rfl, ev, c.E, dxe, _, _, rfl, gev10, TE.cl, TE.no _ (by decide +kernel), look (ns := evN) 5 rfl (by decide +kernel) rfl, _, rfl, ?_⟩
    cases off with
    | true =>
      refine iteF ⟨_, rfl, fin H10 kM10 ge10 gc10 gb10 ?_ ev10 hC10⟩
      rw [eU, if_pos rfl]
      exact gu10
    | false =>
      rw [if_neg (by simp)] at eU
      have usM : ∀ a, a ∈ l.us → a ∈ l.M := fun a ha => by unfold Lay.M; simp [ha]
      have hC10' : AllAt (CdAt c.C H10) (l.cs ++ cs') (cdD v) := by
        rw [eC]
        exact AllAt.app (U.uC.mono fun a z _ h => CdAt.same h (kM10.wo.trans wo_same)) (hC10.mono fun a z _ h => CdAt.same h (wo_same.trans wo_same))
      refine iteT ⟨_, rfl, x, l.dx, uF l, rfl, kM10.at U.ux, nU "let_use" (by decide +kernel), _, rfl,
        x, l.dx, p4, l.cds, l.usb, uF l, List.range' u.conds.length tr.puts.length, l.cs ++ cs', l.us, cdD v, usD g u, rfl, kM10.at U.ux, fU "conditions" 2 _ (by decide +kernel) rfl, fU "usable" 4 _ (by decide +kernel) rfl, SqL.of (wo_mk gp10 fun e => p4M (usM _ e)), wo_mk gc10 (fun e => nd.2.1 (by simp [e])), wo_mk (kM10.at U.uu) (fun e => (wo_at U.uu).2 (usM _ e)), hC10', gu10, nd.2.2.2, ?_, ?_, fun H11 k11 hU11 => ?_⟩
      · intro d hd
        obtain ⟨h1', h2'⟩ := List.mem_range'_1.mp hd
        obtain ⟨j, rfl⟩ : ∃ j, d = u.conds.length + j := ⟨d - u.conds.length, by omega⟩
        have hj : j < tr.puts.length := by omega
        refine ⟨(tr.puts[j], ((u.events.length : Nat) : Int)), ?_, ?_⟩
        · rw [cdD_get, G.cond_new, List.getElem?_eq_getElem hj]
          rfl
        · rw [usD_len]
          exact (Nu.placesOk_iff.mp (N.tsk tr (List.mem_of_getElem? ht)).2.1).2 _ (List.getElem_mem hj)
      · intro z hz
        unfold usD at hz
        obtain ⟨p, _, rfl⟩ := List.mem_map.mp hz
        have : (Nu.usableOf u p).length ≤ u.conds.length := by
          have := List.length_filter_le (fun c => Nu.placeOf u c == p && u.open_ c) (List.range u.conds.length)
          rwa [List.length_range] at this
        rw [List.length_range']
        omega
      · have kk : ∀ {a : Addr} {o : HO}, H10 a = some o → a ∉ l.us → H11 a = some o := fun h n => k11 _ _ h n
        refine ⟨_, rfl, fin H11 (kM10.trans (k11.mono usM)) (kk ge10 fun e => nd.1 (by simp [e])) (kk gc10 fun e => nd.2.1 (by simp [e])) (kk gb10 nd.2.2.1) ?_ (ev10.same (k11.mono usM).both.wo) (hC10.mono fun a z _ h => CdAt.same h (k11.mono usM).both.wo)⟩
        rw [eU]
        exact hU11
end
end NuP
end
/-! # NuP17 -/
section
set_option Elab.async false
set_option maxRecDepth 100000
set_option maxHeartbeats 4000000
set_option linter.all false
namespace NuP
open PySem PySem.Spec PyProof.Rows L2
open Sq63 (Net Places Transition Unfolding)
variable {P : Program} {w : World} {K : PySem.W.Frag} {mg : Str → Option Value} {base : Heap}
abbrev sUni : Stmt := inClass (top 20) 0
abbrev nUni : List Str := ["self", "net", "place"]
theorem scUni : FnScope nUni ["self", "net"] (defScope sUni) := ⟨rfl, rfl, rfl, by decide +kernel, rfl, by decide +kernel, by decide +kernel⟩
/-- a net that stands in the heap, with its parts -/
structure NetIn (c : Cs) (H : Hp) (net dn tl mA : Addr) (as : List Addr) (g : Net) (m0 : Places) : Prop where
  un : H net = some (.ins c.N dn (netF g.n tl mA))
  ut : H tl = some (.lst (as.map V.ref))
  um : TupAt H mA m0
  uT : AllAt (TrAt c.T H) as g.ts
theorem NetIn.same {c : Cs} {H H' : Hp} {net dn tl mA : Addr} {as : List Addr} {g : Net} {m0 : Places} (h : NetIn c H net dn tl mA as g m0) (s : Same H H') : NetIn c H' net dn tl mA as g m0 := ⟨s _ _ h.un, s _ _ h.ut, s _ _ h.um, h.uT.mono fun a z _ q => q.same s⟩
theorem start_usable (m0 : Places) (p : Nat) : Nu.usableOf (Nu.start m0) p = (List.range' 0 m0.length).filter fun c => (((cdD (Nu.start m0))[c]?).map (·.1)).getD 0 == p := by
  unfold Nu.usableOf
  rw [List.range_eq_range', show (Nu.start m0).conds.length = m0.length by simp [Nu.start]]
  refine List.filter_congr fun c hc => ?_
  have hc' := (List.mem_range'_1.mp hc).2
  have ho : (Nu.start m0).open_ c = true := by
    rw [Nu.Grow.open_eq _ _ (by simp [Nu.start]; omega), Nu.start_maker]
  rw [ho, Bool.and_true, ← placeD_eq]
  rfl
theorem start_cd (m0 : Places) : cdD (Nu.start m0) = m0.map fun p => (p, (-1 : Int)) := by
  unfold cdD Nu.start
  rw [List.map_map]
  rfl
theorem start_grown (m0 : Places) : Nu.grown_ [] 0 0 m0.length = (List.range m0.length).map fun c => Nu.pows (List.range' 0 m0.length) - 2 ^ c := by
  unfold Nu.grown_
  rw [List.range_eq_range']
  show [] ++ _ = _
  rw [List.nil_append]
  exact List.map_congr_left fun c _ => Nat.zero_or _
def spUni (c : Cs) : Sp := fun vs H Q _ => ∃ (x dx net dn tl mA : Addr) (as : List Addr) (g : Net) (m0 : Places), vs = [.ref x, .ref net] ∧ H x = some (.ins c.U dx []) ∧ NetIn c H net dn tl mA as g m0 ∧ NetFit g m0 ∧
  ∀ (H' : Hp) (l : Lay) (B : List Nat), UnfAt c l H' x g m0 (Nu.start m0) B → UnfOk g m0 (Nu.start m0) B → (∀ a, a ∈ l.M → H a = none) → Keep [x] H H' → Q .non H'
theorem ok_uni {c : Cs} {f fM fL : Addr} {fd fdM fdL : FuncData} {tk : Tok} (F : Fun K "__init__" "Unfolding.__init__" sUni f fd) (TU : ClsT K mg "Unfolding" c.U uN) (TN : ClsT K mg "Net" c.N ["places", "transitions", "marking"]) (gRan : mg "range" = none) (gB : mg "FROM_THE_BEGINNING" = some (.int (-1) tk))
    (GM : FnOk P w K mg base CX0 3 fM fdM ["self", "places", "maker", "common"] (spMkc c.U c.C K)) (bM : Binds K fdM ["self", "places", "maker", "common"] []) (mM : Meth K c.U "make_conditions" fM)
    (GL : FnOk P w K mg base CX0 1 fL fdL ["self", "conditions"] (spLet c.U c.C K)) (bL : Binds K fdL ["self", "conditions"] []) (mL : Meth K c.U "let_use" fL) : FnOk P w K mg base CX0 4 f fd ["self", "net"] (spUni c) := by
  refine F.ok scUni (fun vs H Q E h => ?_) (fun cdv A outer s H vs Q E hr h => ?_)
  · obtain ⟨x, dx, net, dn, tl, mA, as, g, m0, rfl, _⟩ := h
    rfl
  · obtain ⟨x, dx, net, dn, tl, mA, as, g, m0, rfl, hx, I, N, q⟩ := h
    have hr1 : Room 1 _ := hr.mono (by decide)
    refine ⟨_, pss_cons (ps_fld (pv 0) (pv 1) rfl) (pss_cons (ps_fld (pv 0) (pe_lst pa_nil) rfl) (pss_cons (ps_fld (pv 0) (pe_lst pa_nil) rfl) (pss_cons (ps_fld (pv 0) (pe_lst pa_nil) rfl)
      (pss_cons (ps_fld (pv 0) (pe_lc (own := [("place", 2)]) (g := gName 2) (tt := tYes) (te := tLst tNil) rfl scUni.nd (pi_range1 (by rfl) gRan (pa_cons (pe_fld (pv 1) rfl) pa_nil)) (blkOk_by (own := [("place", 2)]) (N := nUni) (sc := defScope sUni) (by decide +kernel))
        (fun _ _ _ _ _ => pg_name (i := 2) scUni.nd rfl (Or.inl rfl)) (fun _ _ _ _ _ => pts_nil) (fun _ _ _ _ _ => pe_lst pa_nil)) rfl)
      (pss_cons (ps_fld (pv 0) (pe_meth (pv 0) TU.cl mM GM hr bM .nil pass0 (pa_cons (pe_fld (pv 1) rfl) (pa_cons (pe_glob (v := .int (-1)) rfl gB ⟨_, rfl⟩) (pa_cons pe_int pa_nil)))) rfl)
      (pss_one (ps_expr (pe_meth (pv 0) TU.cl mL GL hr1 bL .nil pass0 (pa_cons (pe_fld (pv 0) rfl) pa_nil))))))))), ?_⟩
    refine ⟨_, rfl, _, rfl, x, c.U, dx, [], rfl, hx, TU.cl, TU.no _ (by decide +kernel), (by show 0 < 1000; decide), ?_⟩
    refine ⟨by show 0 ≤ sizeLine; decide, fun evs n1 => ?_⟩
    have x1 : x ≠ evs := ne_of_none upd_same n1
    refine ⟨_, rfl, x, c.U, dx, _, rfl, (upd_ne x1).trans upd_same, TU.cl, TU.no _ (by decide +kernel), (by show 1 < 1000; decide), ?_⟩
    refine ⟨by show 0 ≤ sizeLine; decide, fun cds n2 => ?_⟩
    have x2 : x ≠ cds := ne_of_none upd_same n2
    refine ⟨_, rfl, x, c.U, dx, _, rfl, (upd_ne x2).trans upd_same, TU.cl, TU.no _ (by decide +kernel), (by show 2 < 1000; decide), ?_⟩
    refine ⟨by show 0 ≤ sizeLine; decide, fun bes n3 => ?_⟩
    have x3 : x ≠ bes := ne_of_none upd_same n3
    refine ⟨_, rfl, x, c.U, dx, _, rfl, (upd_ne x3).trans upd_same, TU.cl, TU.no _ (by decide +kernel), (by show 3 < 1000; decide), ?_⟩
    rw [putN (fs := []) (ns := []) rfl rfl, putN (fs := [] ++ [_]) (ns := ["net"]) rfl (by decide +kernel), putN (fs := [] ++ [_] ++ [_]) (ns := ["net", "events"]) rfl (by decide +kernel), putN (fs := [] ++ [_] ++ [_] ++ [_]) (ns := ["net", "events", "conditions"]) rfl (by decide +kernel)]
    rw [putN (fs := []) (ns := []) rfl rfl] at n1 n2 n3
    rw [putN (fs := [] ++ [_]) (ns := ["net"]) rfl (by decide +kernel)] at n2 n3
    rw [putN (fs := [] ++ [_] ++ [_]) (ns := ["net", "events"]) rfl (by decide +kernel)] at n3
    have ec : evs ≠ cds := ne_of_none ((upd_ne (Ne.symm x1)).trans upd_same) n2
    have eb : evs ≠ bes := ne_of_none ((upd_ne (Ne.symm x1)).trans ((upd_ne ec).trans ((upd_ne (Ne.symm x1)).trans upd_same))) n3
    have cb : cds ≠ bes := ne_of_none ((upd_ne (Ne.symm x2)).trans upd_same) n3
    have h1 : H evs = none := by rwa [upd_ne (Ne.symm x1)] at n1
    have h2 : H cds = none := by rwa [upd_ne (Ne.symm x2), upd_ne (Ne.symm ec), upd_ne (Ne.symm x2)] at n2
    have h3 : H bes = none := by rwa [upd_ne (Ne.symm x3), upd_ne (Ne.symm cb), upd_ne (Ne.symm x3), upd_ne (Ne.symm eb), upd_ne (Ne.symm x3)] at n3
    obtain ⟨H4, eH4⟩ : ∃ H4, H4 = upd (upd (upd (upd (upd (upd (upd H x (.ins c.U dx ([] ++ [(("net" : Str), V.ref net)]))) evs (.lst [])) x (.ins c.U dx ([] ++ [(("net" : Str), V.ref net)] ++ [(("events" : Str), V.ref evs)]))) cds (.lst [])) x (.ins c.U dx ([] ++ [(("net" : Str), V.ref net)] ++ [(("events" : Str), V.ref evs)] ++ [(("conditions" : Str), V.ref cds)]))) bes (.lst [])) x (.ins c.U dx ([] ++ [(("net" : Str), V.ref net)] ++ [(("events" : Str), V.ref evs)] ++ [(("conditions" : Str), V.ref cds)] ++ [(("beside" : Str), V.ref bes)])) := ⟨_, rfl⟩
    have hx4 : H4 x = some (.ins c.U dx [("net", .ref net), ("events", .ref evs), ("conditions", .ref cds), ("beside", .ref bes)]) := by rw [eH4, upd_same]; rfl
    have ge4 : H4 evs = some (.lst []) := by rw [eH4, upd_ne (Ne.symm x1), upd_ne eb, upd_ne (Ne.symm x1), upd_ne ec, upd_ne (Ne.symm x1), upd_same]
    have gc4 : H4 cds = some (.lst []) := by rw [eH4, upd_ne (Ne.symm x2), upd_ne cb, upd_ne (Ne.symm x2), upd_same]
    have gb4 : H4 bes = some (.lst []) := by rw [eH4, upd_ne (Ne.symm x3), upd_same]
    have k4 : Keep [x] H H4 := by
      rw [eH4]
      exact Keep.upd (Keep.upd (Keep.upd (Keep.upd (Keep.upd (Keep.upd (Keep.upd (Keep.same (Same.refl _)) (Or.inl (by simp))) (Or.inr h1)) (Or.inl (by simp))) (Or.inr h2)) (Or.inl (by simp))) (Or.inr h3)) (Or.inl (by simp))
    rw [← eH4]
    clear eH4 n1 n2 n3
    have notx : ∀ {a : Addr} {o : HO}, H a = some o → (∀ fs, o ≠ .ins c.U dx fs) → a ∉ [x] := fun {a o} ha hn e => by
      rw [List.mem_singleton.mp e, hx] at ha
      exact hn _ (Option.some.inj ha).symm
    have nx : ∀ {a : Addr} {C d : Addr} {fs : List (Str × V)}, H a = some (.ins C d fs) → fs ≠ [] → a ∉ [x] := fun {a C d fs} ha hn e => by
      rw [List.mem_singleton.mp e, hx] at ha
      cases ha
      exact hn rfl
    have nl : ∀ {a : Addr} {xs : List V}, H a = some (.lst xs) → a ∉ [x] := fun {a xs} ha e => by
      rw [List.mem_singleton.mp e, hx] at ha
      cases ha
    have nt : ∀ {a : Addr} {xs : List V}, H a = some (.tup xs) → a ∉ [x] := fun {a xs} ha e => by
      rw [List.mem_singleton.mp e, hx] at ha
      cases ha
    have netK : ∀ {M : List Addr} {H' : Hp}, Keep [x] H H' → (∀ a, a ∈ M → H a = none) → NetIn c (wo M H') net dn tl mA as g m0 := fun {M H'} k hM => by
      have out : ∀ {a : Addr} {o : HO}, H a = some o → a ∉ M := fun h e => by rw [hM _ e] at h; cases h
      refine ⟨wo_mk (k _ _ I.un (nx I.un (by simp [netF]))) (out I.un), wo_mk (k _ _ I.ut (nl I.ut)) (out I.ut), wo_mk (k _ _ I.um (nt I.um)) (out I.um), I.uT.mono fun a z _ h => ?_⟩
      obtain ⟨d, tk, pt, q1, q2, q3, q4⟩ := h.ex
      exact ⟨d, tk, pt, wo_mk (k _ _ q1 (nx q1 (by simp [trF]))) (out q1), wo_mk (k _ _ q2 (nl q2)) (out q2), wo_mk (k _ _ q3 (nl q3)) (out q3), q4⟩
    have I4 := netK (M := []) k4 (by simp)
    have n9 := N.n9
    refine ⟨_, rfl, net, c.N, dn, _, _, rfl, (wo_at I4.un).1, TN.cl, TN.no _ (by decide +kernel), look (ns := ["places", "transitions", "marking"]) 0 rfl (by decide +kernel) rfl, (g.n : Int), rfl, by omega, by omega, fun D hD => ?_⟩
    rw [Int.toNat_natCast]
    have hDx : x ≠ D := ne_of_none hx4 hD
    have hDe : evs ≠ D := ne_of_none ge4 hD
    have hDc : cds ≠ D := ne_of_none gc4 hD
    have hDb : bes ≠ D := ne_of_none gb4 hD
    refine lc_made walk_range (fun j H' => Same H4 H' ∧ ∃ us : List Addr, H' D = some (.lst (us.map V.ref)) ∧ us.length = j ∧ us.Nodup ∧ ∀ a, a ∈ us → H' a = some (.lst []) ∧ H4 a = none ∧ a ≠ D) ⟨snew (Same.refl _) hD, [], upd_same, rfl, List.nodup_nil, by simp⟩ (fun _ _ _ _ => trivial) (fun x => rfl) ?_ ?_
    · rintro j y H5 H5' hj ⟨s5, us, gD, hl, und, hu⟩ ⟨rfl, rfl⟩
      refine ⟨by show 0 ≤ sizeLine; decide, fun p np => ⟨us.map V.ref, (snew (Same.refl _) np) _ _ gD, ?_, Same.upd' (snew s5 np) hD, us ++ [p], ?_, ?_, ?_, ?_⟩⟩
      · rw [List.length_map, hl]
        exact small1000 (by omega)
      · rw [upd_same, List.map_append]; rfl
      · rw [List.length_append, hl]; rfl
      · rw [List.nodup_append]
        refine ⟨und, by simp, fun a ha b hb e => ?_⟩
        rw [List.mem_singleton.mp hb] at e
        rw [e] at ha
        rw [(hu _ ha).1] at np
        cases np
      · intro a ha
        rcases List.mem_append.mp ha with ha | ha
        · obtain ⟨q1, q2, q3⟩ := hu a ha
          exact ⟨(upd_ne q3).trans ((snew (Same.refl _) np) _ _ q1), q2, q3⟩
        · rw [List.mem_singleton.mp ha]
          have hpD : p ≠ D := Ne.symm (ne_of_none gD np)
          exact ⟨(upd_ne hpD).trans upd_same, s5.free np, hpD⟩
    · rintro H5 ⟨s5, us, gD, hl, und, hu⟩
      refine ⟨_, rfl, x, c.U, dx, _, rfl, s5 _ _ hx4, TU.cl, TU.no _ (by decide +kernel), (by show 4 < 1000; decide), ?_⟩
      rw [putN (ns := ["net", "events", "conditions", "beside"]) rfl (by decide +kernel)]
      have usN : ∀ a, a ∈ us → H a = none := fun a ha => k4.free (fun e => by
        have := (hu a ha).2.1
        rw [List.mem_singleton.mp e, hx4] at this
        cases this) (hu a ha).2.1
      have usx : ∀ a, a ∈ us → a ≠ x := fun a ha e => by
        have := (hu a ha).2.1
        rw [e, hx4] at this
        cases this
      have uso : ∀ {b : Addr} {o : HO}, H4 b = some o → b ∉ us := fun h e => by
        rw [(hu _ e).2.1] at h
        cases h
      have DN : H D = none := k4.free (fun e => hDx (List.mem_singleton.mp e).symm) hD
      obtain ⟨H6, eH6⟩ : ∃ H6, H6 = upd H5 x (.ins c.U dx ([(("net" : Str), V.ref net), ("events", V.ref evs), ("conditions", V.ref cds), ("beside", V.ref bes)] ++ [(("usable" : Str), V.ref D)])) := ⟨_, rfl⟩
      have hx6 : H6 x = some (.ins c.U dx [("net", .ref net), ("events", .ref evs), ("conditions", .ref cds), ("beside", .ref bes), ("usable", .ref D)]) := by rw [eH6, upd_same]; rfl
      have ge6 : H6 evs = some (.lst []) := by rw [eH6, upd_ne (Ne.symm x1)]; exact s5 _ _ ge4
      have gc6 : H6 cds = some (.lst []) := by rw [eH6, upd_ne (Ne.symm x2)]; exact s5 _ _ gc4
      have gb6 : H6 bes = some (.lst []) := by rw [eH6, upd_ne (Ne.symm x3)]; exact s5 _ _ gb4
      have gD6 : H6 D = some (.lst (us.map V.ref)) := by rw [eH6, upd_ne (Ne.symm hDx)]; exact gD
      have gu6 : ∀ a, a ∈ us → H6 a = some (.lst []) := fun a ha => by rw [eH6, upd_ne (usx a ha)]; exact (hu a ha).1
      have k6 : Keep [x] H H6 := by rw [eH6]; exact Keep.upd (k4.trans (Keep.same s5)) (Or.inl (by simp))
      rw [← eH6]
      clear eH6
      have I6 := netK (M := []) k6 (by simp)
      have nU5 : ∀ k : Str, (["net", "events", "conditions", "beside", "usable"] : List Str).any (· == k) = false → List.lookup k ([("net", .ref net), ("events", .ref evs), ("conditions", .ref cds), ("beside", .ref bes), ("usable", .ref D)] : List (Str × V)) = none := fun k h => nolook (ns := ["net", "events", "conditions", "beside", "usable"]) rfl h
      have m9 : m0.length ≤ 9 := by have := places_len N.m0k; omega
      refine ⟨_, rfl, x, dx, _, rfl, hx6, nU5 "make_conditions" (by decide +kernel), _, rfl, net, c.N, dn, _, _, rfl, (wo_at I6.un).1, TN.cl, TN.no _ (by decide +kernel), look (ns := ["places", "transitions", "marking"]) 2 rfl (by decide +kernel) rfl,
        x, dx, mA, cds, bes, _, m0, [], [], -1, 0, rfl, hx6, look (ns := ["net", "events", "conditions", "beside", "usable"]) 2 rfl (by decide +kernel) rfl, look (ns := ["net", "events", "conditions", "beside", "usable"]) 3 rfl (by decide +kernel) rfl, .inr (SqT.of (wo_at I6.um).1), gc6, gb6, cb, rfl, by show 0 + m0.length ≤ 1000; omega, fun H7 p7 cs' n7 g7 gc7 gb7 hC7 nc7 k7 => ?_⟩
      have gc7 : H7 cds = some (.lst (cs'.map V.ref)) := gc7
      have g7 : ListAt H7 p7 (List.range' 0 m0.length) := g7
      have gb7 : ListAt H7 bes (Nu.grown_ [] 0 0 m0.length) := gb7
      have xcb : x ∉ [cds, bes] := fun e => by
        rcases List.mem_cons.mp e with e | e
        · exact x2 e
        · exact x3 (List.mem_singleton.mp e)
      have ecb : evs ∉ [cds, bes] := fun e => by
        rcases List.mem_cons.mp e with e | e
        · exact ec e
        · exact eb (List.mem_singleton.mp e)
      have Dcb : D ∉ [cds, bes] := fun e => by
        rcases List.mem_cons.mp e with e | e
        · exact hDc e.symm
        · exact hDb (List.mem_singleton.mp e).symm
      have ucb : ∀ a, a ∈ us → a ∉ [cds, bes] := fun a ha e => by
        rcases List.mem_cons.mp e with e | e
        · exact uso gc4 (by rw [← e]; exact ha)
        · exact uso gb4 (by rw [← List.mem_singleton.mp e]; exact ha)
      have hx7 := k7 _ _ hx6 xcb
      refine ⟨_, rfl, x, c.U, dx, _, rfl, hx7, TU.cl, TU.no _ (by decide +kernel), (by show 5 < 1000; decide), ?_⟩
      rw [putN (ns := ["net", "events", "conditions", "beside", "usable"]) rfl (by decide +kernel)]
      let l : Lay := ⟨dx, net, dn, tl, mA, evs, cds, bes, D, p7, as, [], cs', us⟩
      have el : l = ⟨dx, net, dn, tl, mA, evs, cds, bes, D, p7, as, [], cs', us⟩ := rfl
      have p7x : p7 ≠ x := Ne.symm (ne_of_none hx6 n7)
      have p7M : p7 ∉ l.M := fun e => by
        have e : p7 ∈ evs :: cds :: bes :: us := e
        rcases List.mem_cons.mp e with e | e
        · rw [e, ge6] at n7; cases n7
        rcases List.mem_cons.mp e with e | e
        · rw [e, gc6] at n7; cases n7
        rcases List.mem_cons.mp e with e | e
        · rw [e, gb6] at n7; cases n7
        · rw [gu6 _ e] at n7; cases n7
      have xM : x ∉ l.M := fun e => by
        have e : x ∈ evs :: cds :: bes :: us := e
        rcases List.mem_cons.mp e with e | e
        · exact x1 e
        rcases List.mem_cons.mp e with e | e
        · exact x2 e
        rcases List.mem_cons.mp e with e | e
        · exact x3 e
        · exact usx _ e rfl
      have DM : D ∉ l.M := fun e => by
        have e : D ∈ evs :: cds :: bes :: us := e
        rcases List.mem_cons.mp e with e | e
        · exact hDe e.symm
        rcases List.mem_cons.mp e with e | e
        · exact hDc e.symm
        rcases List.mem_cons.mp e with e | e
        · exact hDb e.symm
        · exact (hu _ e).2.2 rfl
      have MN : ∀ a, a ∈ l.M → H a = none := fun a e => by
        have e : a ∈ evs :: cds :: bes :: us := e
        rcases List.mem_cons.mp e with e | e
        · rw [e]; exact h1
        rcases List.mem_cons.mp e with e | e
        · rw [e]; exact h2
        rcases List.mem_cons.mp e with e | e
        · rw [e]; exact h3
        · exact usN a e
      have ndM : l.M.Nodup := by
        show (evs :: cds :: bes :: us).Nodup
        rw [List.nodup_cons, List.nodup_cons, List.nodup_cons]
        refine ⟨fun e => ?_, fun e => ?_, uso gb4, und⟩
        · rcases List.mem_cons.mp e with e | e
          · exact ec e
          rcases List.mem_cons.mp e with e | e
          · exact eb e
          · exact uso ge4 e
        · rcases List.mem_cons.mp e with e | e
          · exact cb e
          · exact uso gc4 e
      obtain ⟨H8, eH8⟩ : ∃ H8, H8 = upd H7 x (.ins c.U dx ([(("net" : Str), V.ref net), ("events", V.ref evs), ("conditions", V.ref cds), ("beside", V.ref bes), ("usable", V.ref D)] ++ [(("first_conditions" : Str), V.ref p7)])) := ⟨_, rfl⟩
      have hx8 : H8 x = some (.ins c.U dx (uF l)) := by rw [eH8, upd_same]; rfl
      have to8 : ∀ {a : Addr} {o : HO}, H7 a = some o → a ≠ x → H8 a = some o := fun h n => by rw [eH8, upd_ne n]; exact h
      have k8 : Keep [x] H H8 := by
        have : Keep [x] H H7 := fun b o e hb => k7 _ _ (k6 _ _ e hb) fun q => by
          rcases List.mem_cons.mp q with q | q
          · rw [q, h2] at e; cases e
          · rw [List.mem_singleton.mp q, h3] at e; cases e
        rw [eH8]
        exact Keep.upd this (Or.inl (by simp))
      have ge8 := to8 (k7 _ _ ge6 ecb) (Ne.symm x1)
      have gc8 := to8 gc7 (Ne.symm x2)
      have gb8 := to8 gb7 (Ne.symm x3)
      have gD8 := to8 (k7 _ _ gD6 Dcb) (Ne.symm hDx)
      have gp8 := to8 g7 p7x
      have gu8 : AllAt (ListAt H8) us (List.replicate g.n []) := ⟨by rw [hl, List.length_replicate], fun i a z ha hz => by
        have hz : z = [] := List.eq_of_mem_replicate (List.mem_of_getElem? hz)
        have ham := List.mem_of_getElem? ha
        rw [hz]
        exact to8 (k7 _ _ (gu6 a ham) (ucb a ham)) (usx a ham)⟩
      have hC8 : AllAt (CdAt c.C H8) cs' (cdD (Nu.start m0)) := by
        rw [start_cd]
        exact hC7.mono fun a z ha ⟨d, h⟩ => ⟨d, to8 h fun e => by have := nc7 a ha; rw [e, hx6] at this; cases this⟩
      rw [← eH8]
      have cM : ∀ a, a ∈ cs' → a ∉ l.M := fun a ha e => by
        have n := nc7 a ha
        have e : a ∈ evs :: cds :: bes :: us := e
        rcases List.mem_cons.mp e with e | e
        · rw [e, ge6] at n; cases n
        rcases List.mem_cons.mp e with e | e
        · rw [e, gc6] at n; cases n
        rcases List.mem_cons.mp e with e | e
        · rw [e, gb6] at n; cases n
        · rw [gu6 _ e] at n; cases n
      clear eH8 to8
      have fU : ∀ k i v, uN.findIdx? (· == k) = some i → (uF l)[i]?.map (·.2) = some v → Has (uF l) k v := fun k i v h1 h2 => look (ns := uN) i rfl h1 h2
      have clen : (Nu.start m0).conds.length = m0.length := by simp [Nu.start]
      refine ⟨_, rfl, x, dx, uF l, rfl, hx8, nolook (ns := uN) rfl (by decide +kernel), _, rfl, x, c.U, dx, uF l, _, rfl, hx8, TU.cl, TU.no _ (by decide +kernel), fU "first_conditions" 5 _ (by decide +kernel) rfl,
        x, dx, p7, cds, D, uF l, List.range' 0 m0.length, cs', us, cdD (Nu.start m0), List.replicate g.n [], rfl, hx8, fU "conditions" 2 _ (by decide +kernel) rfl, fU "usable" 4 _ (by decide +kernel) rfl, SqL.of (wo_mk gp8 fun e => p7M (by show _ ∈ evs :: cds :: bes :: us; simp [e])), wo_mk gc8 (uso gc4), wo_mk gD8 (fun e => (hu _ e).2.2 rfl), hC8, gu8, und, ?_, ?_, fun H9 k9 hU9 => ?_⟩
      · intro d hd
        have hd' := (List.mem_range'_1.mp hd).2
        have hj : d < m0.length := by omega
        refine ⟨(m0[d], -1), by rw [start_cd, List.getElem?_map, List.getElem?_eq_getElem hj]; rfl, ?_⟩
        rw [List.length_replicate]
        exact (Nu.placesOk_iff.mp N.m0k).2 _ (List.getElem_mem hj)
      · intro z hz
        rw [List.eq_of_mem_replicate hz, List.length_range']
        show 0 + _ ≤ _
        omega
      · have k9M : Keep l.M H8 H9 := k9.mono fun a ha => by show a ∈ evs :: cds :: bes :: us; simp [ha]
        have kf : Keep [x] H H9 := fun b o e hb => k9 _ _ (k8 _ _ e hb) fun q => by rw [usN b q] at e; cases e
        have I9 := netK (M := l.M) kf MN
        have ndc := ndM
        have ndc : (evs :: cds :: bes :: us).Nodup := ndM
        rw [List.nodup_cons, List.nodup_cons, List.nodup_cons] at ndc
        refine q H9 l (Nu.grown_ [] 0 0 m0.length) ⟨wo_mk (k9M _ _ hx8 xM) xM, I9.un, I9.ut, I9.um, I9.uT, k9 _ _ ge8 fun e => ndc.1 (List.mem_cons_of_mem _ (List.mem_cons_of_mem _ e)), k9 _ _ gc8 fun e => ndc.2.1 (List.mem_cons_of_mem _ e), k9 _ _ gb8 ndc.2.2.1, wo_mk (k9M _ _ gD8 DM) DM, ?_, ?_, AllAt.nil, ?_, ndM⟩ ⟨Nu.good_start, ?_, by simp [Nu.start], ?_⟩ MN kf
        · have eU : usD g (Nu.start m0) = (List.replicate g.n []).mapIdx fun p z => z ++ (List.range' 0 m0.length).filter fun c => (((cdD (Nu.start m0))[c]?).map (·.1)).getD 0 == p := by
            refine List.ext_getElem? fun p => ?_
            by_cases hp : p < g.n
            · rw [usD_get hp, List.getElem?_mapIdx, List.getElem?_replicate, if_pos hp, start_usable]
              rfl
            · rw [List.getElem?_eq_none (by rw [usD_len]; omega), List.getElem?_mapIdx, List.getElem?_replicate, if_neg hp]
              rfl
          rw [eU]
          exact hU9
        · rw [Nu.start_first, List.range_eq_range']
          exact wo_mk (k9M _ _ gp8 p7M) p7M
        · exact hC8.mono fun a z ha ⟨d, h⟩ => ⟨d, wo_mk (k9M _ _ h (cM a ha)) (cM a ha)⟩
        · rw [start_grown]
          exact Nu.start_beside
        · rw [clen]
          omega
end NuP
end
/-! # NuP18 -/
section
set_option Elab.async false
set_option maxRecDepth 100000
set_option maxHeartbeats 4000000
set_option linter.all false
namespace NuP
open PySem PySem.Spec PyProof.Rows L2
open Sq63 (Net Places Transition Unfolding)
open NuR (IKey kd kLt)
def ik (z : Nu.PKey) : IKey := ((z.1 : Int), (z.2.1 : Int), z.2.2.map Int.ofNat)
theorem lex_before : ∀ a b : List Nat, HT.lexLt (a.map Int.ofNat) (b.map Int.ofNat) = Sq63.before a b
  | [], [] => rfl
  | [], _ :: _ => rfl
  | _ :: _, [] => rfl
  | a :: l, b :: m => by
    have ih := lex_before l m
    rw [List.map_cons, List.map_cons, HT.lexLt, Sq63.before, ih]
    by_cases e : a = b
    · subst e; simp
    · have : ¬ ((a : Int) = (b : Int)) := by omega
      simp [e, this]
theorem kLt_key {a b : Nu.PKey} (h : kLt (ik a) (ik b) = false) : ¬ Nu.keyLt a b := by
  intro q
  unfold kLt ik at h
  unfold Nu.keyLt at q
  simp only at h
  rw [lex_before] at h
  by_cases e1 : a.1 = b.1
  · rw [if_pos (by rw [e1])] at h
    by_cases e2 : a.2.1 = b.2.1
    · rw [if_pos (by rw [e2])] at h
      rcases q with q | ⟨_, q | ⟨_, q⟩⟩
      · omega
      · omega
      · rw [h] at q; cases q
    · rw [if_neg (by omega)] at h
      have := of_decide_eq_false h
      rcases q with q | ⟨_, q | ⟨q, _⟩⟩ <;> omega
  · rw [if_neg (by omega)] at h
    have := of_decide_eq_false h
    rcases q with q | ⟨q, _⟩ <;> omega
theorem ik_inj {a b : Nu.PKey} (h : ik a = ik b) : a = b := by
  obtain ⟨a1, a2, a3⟩ := a
  obtain ⟨b1, b2, b3⟩ := b
  unfold ik at h
  simp only [Prod.mk.injEq] at h
  obtain ⟨h1, h2, h3⟩ := h
  have h3 := congrArg (List.map Int.toNat) h3
  rw [List.map_map, List.map_map] at h3
  have e3 : a3 = b3 := ((map_self a3).symm.trans (List.map_congr_left fun n _ => rfl)).trans (h3.trans ((List.map_congr_left fun n _ => rfl).trans (map_self b3)))
  rw [show a1 = b1 by omega, show a2 = b2 by omega, e3]
theorem dp_key {K : PySem.W.Frag} {H : Hp} {a : Addr} {z : Nu.PKey} (h : KeyAt H a z) : Dp K H (.ref a) (kd (ik z)) := by
  obtain ⟨b, h1, h2⟩ := h
  exact .tup (SqT.of h1) (.cons (.int _) (.cons (.int _) (.cons (dp_tup h2) .nil)))
theorem dp_keys {K : PySem.W.Frag} {H : Hp} : ∀ {ks : List Addr} {L : List Nu.PKey}, AllAt (KeyAt H) ks L → DpAll K H (ks.map V.ref) ((L.map ik).map kd)
  | [], [], _ => .nil
  | [], _ :: _, h => by have := h.len; simp at this
  | _ :: _, [], h => by have := h.len; simp at this
  | k :: ks, z :: L, h => .cons (dp_key (h.at_ 0 k z rfl rfl)) (dp_keys ⟨by have := h.len; simpa using this, fun i a x ha hx => h.at_ (i + 1) a x (by simpa using ha) (by simpa using hx)⟩)
theorem AllAt.eraseIdx {α : Type} {F : Addr → α → Prop} {as : List Addr} {xs : List α} (h : AllAt F as xs) (j : Nat) : AllAt F (as.eraseIdx j) (xs.eraseIdx j) := by
  refine ⟨by rw [List.length_eraseIdx, List.length_eraseIdx, h.len], fun i a x ha hx => ?_⟩
  rw [List.getElem?_eraseIdx] at ha hx
  by_cases q : i < j
  · rw [if_pos q] at ha hx
    exact h.at_ i a x ha hx
  · rw [if_neg q] at ha hx
    exact h.at_ (i + 1) a x ha hx
theorem erase_map {α β : Type} (f : α → β) : ∀ (l : List α) (j : Nat), (l.map f).eraseIdx j = (l.eraseIdx j).map f
  | [], _ => rfl
  | _ :: _, 0 => rfl
  | a :: l, j + 1 => by rw [List.map_cons, List.eraseIdx_cons_succ, List.eraseIdx_cons_succ, List.map_cons, erase_map f l j]
theorem erase_at {α : Type} [BEq α] [LawfulBEq α] : ∀ {l : List α} {j : Nat} {z : α}, l.Nodup → l[j]? = some z → l.eraseIdx j = l.erase z
  | a :: l, 0, z, h, e => by
    have e : a = z := by simpa using e
    subst e
    simp
  | a :: l, j + 1, z, h, e => by
    rw [List.nodup_cons] at h
    have e : l[j]? = some z := by simpa using e
    have hne : a ≠ z := fun q => h.1 (by rw [q]; exact List.mem_of_getElem? e)
    rw [List.eraseIdx_cons_succ, List.erase_cons_tail (by simpa using hne), erase_at h.2 e]
theorem rows_congr {U U' : Nat → List Nat} {B : List Nat} : ∀ (ps : List Nat) (rows : List (List Nat × Nat)), (∀ p, p ∈ ps → U p = U' p) → ps.foldl (Nu.rowsStep U B) rows = ps.foldl (Nu.rowsStep U' B) rows
  | [], _, _ => rfl
  | p :: ps, rows, h => by
    rw [List.foldl_cons, List.foldl_cons]
    have e : Nu.rowsStep U B rows p = Nu.rowsStep U' B rows p := by
      unfold Nu.rowsStep
      rw [h p (by simp)]
    rw [e, rows_congr ps _ fun q hq => h q (by simp [hq])]
theorem choices_congr {U U' : Nat → List Nat} {B : List Nat} {ps : List Nat} {near : Nat} (h : ∀ p, p ∈ ps → U p = U' p) : Nu.choicesP U B ps near = Nu.choicesP U' B ps near := by
  unfold Nu.choicesP
  rw [rows_congr ps _ h]
theorem poss_eq {g : Net} {m0 : Places} (N : NetFit g m0) {u : Unfolding} {B made : List Nat} : possD (fun p => ((usD g u)[p]?).getD []) B g.ts made (Nu.needAll u) = Nu.possWith g u B made := by
  unfold possD Nu.possWith
  by_cases h : made.length = 0
  · rw [if_pos h, if_pos h]
  · rw [if_neg h, if_neg h]
    refine flatMap_congr' fun x hx => ?_
    unfold possRow Nu.possAt
    have hm : x.1 ∈ g.ts := by
      have := List.mem_map_of_mem (f := Prod.fst) hx
      rwa [List.zipIdx_map_fst] at this
    rw [choices_congr (U' := Nu.usableOf u) fun p hp => by
      have := (Nu.placesOk_iff.mp (N.tsk x.1 hm).1).2 p hp
      show ((usD g u)[p]?).getD [] = _
      rw [usD_get this]
      rfl]
    rfl
theorem pos_of {c : Cs} {K : PySem.W.Frag} {l : Lay} {H : Hp} {x md : Addr} {g : Net} {m0 : Places} {u : Unfolding} {B made : List Nat} {Q : VK} {E : XK} (U : UnfAt c l H x g m0 u B) (N : NetFit g m0) (O : UnfOk g m0 u B) (hmd : ListAt H md made) (hm : ∀ c, c ∈ made → c < u.conds.length) (htot : (Nu.possWith g u B made).length ≤ 8 * 6 ^ 8)
    (q : ∀ (H' : Hp) (p : Addr) (ks : List Addr), Same H H' → H p = none → H' p = some (.lst (ks.map V.ref)) → AllAt (KeyAt H') ks (Nu.possWith g u B made) → Q (.ref p) H') : spPos c.U c.N c.T c.C c.E K [.ref x, .ref md] H Q E := by
  have fU : ∀ k i v, uN.findIdx? (· == k) = some i → (uF l)[i]?.map (·.2) = some v → Has (uF l) k v := fun k i v h1 h2 => look (ns := uN) i rfl h1 h2
  have es := O.e40
  have csz := O.csz
  have up : ∀ t, t ∈ g.ts → ∀ p, p ∈ t.takes → p < g.n := fun t ht p hp => (Nu.placesOk_iff.mp (N.tsk t ht).1).2 p hp
  have ue : ∀ t, t ∈ g.ts → ∀ p, p ∈ t.takes → ((usD g u)[p]?).getD [] = Nu.usableOf u p := fun t ht p hp => by rw [usD_get (up t ht p hp)]; rfl
  refine ⟨x, l.dx, md, l.net, l.dn, l.tl, l.mA, l.cds, l.evs, l.bes, l.usb, uF l, g.n, made, B, l.us, l.as, l.cs, l.es, usD g u, g.ts, cdD u, evD u, Nu.needAll u, rfl, (wo_at U.ux).1, rfl, fU "net" 0 _ (by decide +kernel) rfl, fU "conditions" 2 _ (by decide +kernel) rfl, fU "events" 1 _ (by decide +kernel) rfl, fU "beside" 3 _ (by decide +kernel) rfl, fU "usable" 4 _ (by decide +kernel) rfl,
    hmd, (wo_at U.un).1, (wo_at U.ut).1, U.uT.mono (fun a z _ h => h.same wo_same), U.ub, (wo_at U.uu).1, U.uU, U.uc, U.ue, U.uC.mono (fun a z _ h => CdAt.same h wo_same), U.uE.mono (fun a z _ h => h.same wo_same), ?_, ?_, ?_, ?_, ?_, ?_, ?_, ?_, ?_⟩
  · intro d hd
    have := evD_needs O.good d hd
    omega
  · intro t ht p hp
    rw [usD_len]
    exact up t ht p hp
  · intro z hz d hd
    unfold usD at hz
    obtain ⟨p, _, rfl⟩ := List.mem_map.mp hz
    rw [O.bes.len]
    exact (Nu.mem_usable.mp hd).1
  · rw [O.bes.len]; omega
  · intro d hd
    rw [O.bes.len]
    exact hm d hd
  · intro t ht k
    rw [rows_congr (U' := Nu.usableOf u) (t.takes.take k) _ fun p hp => ue t ht p (List.mem_of_mem_take hp)]
    exact Nu.rows_count O.good N.ok N.safe N.t8 es O.bes (List.Nodup.sublist (List.take_sublist _ _) (Nu.rise_nodup (N.ok.takes t ht))) _
  · intro t ht ls hls
    rw [choices_congr (U' := Nu.usableOf u) fun p hp => ue t ht p hp] at hls
    obtain ⟨h1, h2, _⟩ := (Nu.choicesP_iff O.good O.bes (Nu.rise_nodup (N.ok.takes t ht))).mp hls
    refine ⟨?_, fun d hd => cd_made O.good (h1.lt d hd), Nu.needAll_rise _ _, ?_, fun z => needAll_iff⟩
    · have := (puts_len N ht).1
      rw [h1.len]; omega
    · have := needAll_len O.good ls
      omega
  · rw [poss_eq N]
    exact htot
  · rw [poss_eq N]
    exact q
end NuP
end
/-! # NuP19 -/
section
set_option Elab.async false
set_option maxRecDepth 100000
set_option maxHeartbeats 4000000
set_option linter.all false
namespace NuP
open PySem PySem.Spec PyProof.Rows L2
open Sq63 (Net Places Transition Unfolding)
open NuR (IKey kd kLt)
variable {P : Program} {w : World} {K : PySem.W.Frag} {mg : Str → Option Value} {base : Heap}
abbrev sUnf : Stmt := top 21
abbrev nUnf : List Str := ["net", "unfolding", "possible", "first", "event"]
theorem scUnf : FnScope nUnf ["net"] (defScope sUnf) := ⟨rfl, rfl, rfl, by decide +kernel, rfl, by decide +kernel, by decide +kernel⟩
def spUnf (c : Cs) : Sp := fun vs H Q _ => ∃ (net dn tl mA : Addr) (as : List Addr) (g : Net) (m0 : Places), vs = [.ref net] ∧ NetIn c H net dn tl mA as g m0 ∧ NetFit g m0 ∧
  (g.unfolded m0 = none → ∀ H', Same H H' → Q .non H') ∧ ∀ u, g.unfolded m0 = some u → ∀ (H' : Hp) (x : Addr) (l : Lay) (B : List Nat), Same H H' → UnfAt c l H' x g m0 u B → UnfOk g m0 u B → H x = none → (∀ a, a ∈ l.M → H a = none) → Q (.ref x) H'
/-- between two turns -/
def IU (c : Cs) (net : Addr) (g : Net) (m0 : Places) (H : Hp) (m : Nat) (σ : L2.St) (H' : Hp) : Prop := ∃ (x p : Addr) (l : Lay) (u : Unfolding) (B : List Nat) (L : List Nu.PKey) (ks : List Addr) (v3 v4 : Option V), σ = [some (.ref net), some (.ref x), some (.ref p), v3, v4] ∧ Same H H' ∧ H x = none ∧ UnfAt c l (wo [p] H') x g m0 u B ∧ UnfOk g m0 u B ∧ (∀ a, a ∈ l.M → H a = none) ∧ p ∉ l.M ∧ H p = none ∧
  H' p = some (.lst (ks.map V.ref)) ∧ AllAt (KeyAt H') ks L ∧ Nu.PossList g u L ∧ Sq63.unfold g m0 m u = g.unfolded m0 ∧ m + u.events.length = 41
theorem KeyAt.keepM {M : List Addr} {H H' : Hp} {a : Addr} {r : Nu.PKey} (h : KeyAt H a r) (k : Keep M H H') (hl : ∀ b, b ∈ M → ∃ ys, H b = some (.lst ys)) : KeyAt H' a r := by
  obtain ⟨b, h1, h2⟩ := h
  refine ⟨b, k _ _ h1 fun q => ?_, k _ _ h2 fun q => ?_⟩
  · obtain ⟨ys, e⟩ := hl _ q
    rw [e] at h1
    cases h1
  · obtain ⟨ys, e⟩ := hl _ q
    rw [show H b = _ from h2] at e
    cases e
theorem ok_unf {c : Cs} {f fU fP fA : Addr} {fd fdU fdP fdA : FuncData} {tk : Tok} (F : Fun K "unfold" "unfold" sUnf f fd) (TU : ClsT K mg "Unfolding" c.U uN) (TE : ClsT K mg "Event" c.E evN) (gLen : mg "len" = none) (gMin : mg "min" = none) (g40 : mg "MOST_EVENTS" = some (.int 40 tk))
    (GU : FnOk P w K mg base CX0 4 fU fdU ["self", "net"] (spUni c)) (bU : Binds K fdU ["self", "net"] []) (mU : Mk K c.U fU)
    (GP : FnOk P w K mg base CX0 3 fP fdP ["self", "made"] (spPos c.U c.N c.T c.C c.E K)) (bP : Binds K fdP ["self", "made"] []) (mP : Meth K c.U "possible_with" fP)
    (GA : FnOk P w K mg base CX0 4 fA fdA ["self", "transition", "used"] (spAdd c K)) (bA : Binds K fdA ["self", "transition", "used"] []) (mA_ : Meth K c.U "add_event" fA) : FnOk P w K mg base CX0 6 f fd ["net"] (spUnf c) := by
  refine F.ok scUnf (fun vs H Q E h => ?_) (fun cdv A outer s H vs Q E hr h => ?_)
  · obtain ⟨net, dn, tl, mA, as, g, m0, rfl, _⟩ := h
    rfl
  · obtain ⟨net, dn, tl, mA, as, g, m0, rfl, I, N, qN, qS⟩ := h
    have hr3 : Room 3 _ := hr.mono (by decide)
    have hr4 : Room 4 _ := hr.mono (by decide)
    have hu := hr.units
    refine ⟨_, pss_cons (ps_set (i := 1) scUnf.nd rfl (Or.inl rfl) (pe_make mU GU hr rfl TU.gl bU .nil pass0 (pa_cons (pv 0) pa_nil)))
      (pss_cons (ps_set (i := 2) scUnf.nd rfl (Or.inl rfl) (pe_meth (pv 1) TU.cl mP GP hr3 bP .nil pass0 (pa_cons (pe_fld (pv 1) rfl) pa_nil)))
      (pss_cons (ps_while PassesOwn.never (pt_cmpR op_gt (pe_callB call_len_seq (by rfl) gLen PySem.boot_len (pa_cons (pv 2) pa_nil)) pe_int (nomark _))
        (pss_cons (ps_if (pt_cmpR op_eq (pe_callB call_len_seq (by rfl) gLen PySem.boot_len (pa_cons (pe_fld (pv 1) rfl) pa_nil)) (pe_glob (v := .int 40) rfl g40 ⟨_, rfl⟩) (nomark _)) (pss_one (ps_ret pe_non)) pss_nil)
        (pss_cons (ps_set (i := 3) scUnf.nd rfl (Or.inl rfl) (pe_callB (NuR.cr_minKey rfl hu) (by rfl) gMin (by decide +kernel) (pa_cons (pv 2) pa_nil)))
        (pss_cons (ps_expr (pe_bm PySem.F.plainAttrs_list PySem.F.slot_list_remove PySem.F.type_list_remove (NuR.mt_removeD hu) (pv 2) (pa_cons (pv 3) pa_nil)))
        (pss_cons (ps_set (i := 4) scUnf.nd rfl (Or.inl rfl) (pe_meth (pv 1) TU.cl mA_ GA hr4 bA .nil pass0 (pa_cons (pe_ix ix_tup (pv 3) pe_int (fun _ _ => rfl)) (pa_cons (pe_ix ix_tup (pv 3) pe_int (fun _ _ => rfl)) pa_nil))))
        (pss_one (ps_if (pt_not (pt_val (pe_fld (pv 4) rfl))) (pss_one (ps_expr (pe_bm PySem.F.plainAttrs_list PySem.F.slot_list_extend PySem.F.type_list_extend mt_extend (pv 2) (pa_cons (pe_meth (pv 1) TU.cl mP GP hr3 bP .nil pass0 (pa_cons (pe_fld (pv 4) rfl) pa_nil)) pa_nil)))) pss_nil)))))))
      (pss_one (ps_ret (pv 1))))), ?_⟩
    refine ⟨_, rfl, ?_⟩
    intro x dx nx ndx hne
    refine ⟨x, dx, net, dn, tl, mA, as, g, m0, rfl, upd_same, I.same (Same.made nx ndx fun b o e _ => e), N, fun H2 l B U O hM kp => ?_⟩
    have s2 : Same H H2 := Same.made nx ndx fun b o e hb => kp b o e (by simpa using hb)
    have hM : ∀ a, a ∈ l.M → H a = none := fun a ha => (Same.made nx ndx fun b o e _ => e).free (hM a ha)
    have start_le : (Nu.possWith g (Nu.start m0) B (Nu.firstOf (Nu.start m0))).length ≤ 8 * 6 ^ 8 := Nu.poss_count O.good N.ok N.safe N.t8 O.e40 (Nu.start_poss N.ok O.bes)
    have fU : ∀ (l : Lay) k i v, uN.findIdx? (· == k) = some i → (uF l)[i]?.map (·.2) = some v → Has (uF l) k v := fun l k i v h1 h2 => look (ns := uN) i rfl h1 h2
    have nU : ∀ (l : Lay) k, uN.any (· == k) = false → (uF l).lookup k = none := fun l k h => nolook (ns := uN) rfl h
    refine ⟨rfl, _, rfl, x, l.dx, uF l, rfl, (wo_at U.ux).1, nU l "possible_with" (by decide +kernel), _, rfl, x, c.U, l.dx, uF l, _, rfl, (wo_at U.ux).1, TU.cl, TU.no _ (by decide +kernel), fU l "first_conditions" 5 _ (by decide +kernel) rfl, ?_⟩
    simp only [tNil]
    show spPos c.U c.N c.T c.C c.E K [V.ref x, V.ref l.fst] H2 _ _
    refine pos_of U N O (wo_at U.uf).1 (fun d hd => Nu.Grow.first_lt hd) start_le fun H3 p ks s3 n3 g3 hK3 => ?_
    refine ⟨IU c net g m0 H, ⟨41, x, p, l, Nu.start m0, B, _, ks, none, none, rfl, s2.trans s3, nx, ?_, O, hM, U.fresh n3, s2.free n3, g3, hK3, Nu.start_poss N.ok O.bes, rfl, rfl⟩, ?_⟩
    · refine U.same fun a o e => wo_mk (s3 _ _ e) fun q => ?_
      rw [List.mem_singleton.mp q, n3] at e
      cases e
    rintro m σ H' ⟨x, p, l, u, B, L, ks, v3, v4, rfl, s1, nx, U, O, hM, pM, np, gp, hK, hL, hf, hm⟩
    refine ⟨_, rfl, p, _, rfl, .inl (SqL.of gp), _, _, rfl, rfl, _, rfl, ?_⟩
    rw [List.length_map, hK.len]
    have UH := U.same wo_same
    have es := O.e40
    obtain ⟨f', rfl⟩ : ∃ f', m = f' + 1 := ⟨m - 1, by omega⟩
    refine ite2 (fun c' => ⟨fun σ' H2 => ∃ m', m' < f' + 1 ∧ IU c net g m0 H m' σ' H2, fun _ _ h => h, ?_⟩) (fun c' => ?_)
    · have c1 : 0 < L.length := by have := of_decide_eq_true c'; omega
      refine ⟨_, rfl, x, c.U, l.dx, uF l, _, rfl, (wo_at UH.ux).1, TU.cl, TU.no _ (by decide +kernel), fU l "events" 1 _ (by decide +kernel) rfl, l.evs, _, rfl, .inl (SqL.of UH.ue), rfl, _, rfl, ?_⟩
      rw [List.length_map, UH.uE.len, evD_len]
      refine ite2 (fun c2 => ?_) (fun c2 => ?_)
      · have h40 : u.events.length = 40 := by
          have := of_decide_eq_true c2
          have := V.int.inj this
          omega
        have f0 : f' = 0 := by omega
        subst f0
        refine qN ?_ H' s1
        rw [← hf, Sq63.unfold]
        cases L with
        | nil => simp at c1
        | cons z L' =>
          cases e : Sq63.soonest (Sq63.possible g u) with
          | none =>
            obtain ⟨k, t, cs⟩ := z
            have := (hL.mem k t cs).mp (by simp)
            have := Nu.possible_iff.mpr ⟨this.1, rfl⟩
            rw [Nu.soonest_none.mp e] at this
            simp at this
          | some y => rfl
      · have h40 : u.events.length < 40 := by
          have : u.events.length ≠ 40 := fun e => c2 (decide_eq_true (by rw [e]; rfl))
          omega
        refine ⟨_, rfl, p, _, L.map ik, rfl, SqL.of gp, dp_keys hK, by rw [List.length_map]; exact c1, fun j z v hz hv hmin => ?_⟩
        rw [List.getElem?_map] at hz hv
        obtain ⟨⟨k, t, cs⟩, hzL, rfl⟩ := Option.map_eq_some_iff.mp hz
        obtain ⟨a, ha, rfl⟩ := Option.map_eq_some_iff.mp hv
        have hka := hK.at_ j a _ ha hzL
        have hmem := List.mem_of_getElem? hzL
        have hsoon : Sq63.soonest (Sq63.possible g u) = some (t, (cs, Nu.needAll u cs)) := Nu.least_soonest hL hmem fun y hy => kLt_key (hmin (ik y) (List.mem_map_of_mem hy))
        obtain ⟨Po, hk⟩ := (hL.mem k t cs).mp hmem
        obtain ⟨tr, ht, Fi⟩ := id Po.fit
        refine ⟨_, rfl, .inl ⟨rfl, _, SqL.of gp⟩, _, rfl, p, .ref a, kd (ik (k, t, cs)), ks.map V.ref, (L.map ik).map kd, j, kd (ik (k, t, cs)), rfl, rfl, gp, dp_keys hK, dp_key hka, NuR.kds_shaped _, NuR.kd_shaped _, by rw [NuR.kd_depth]; decide, ?_, ?_, ?_, ?_⟩
        · rw [List.getElem?_map, List.getElem?_map, hzL]; rfl
        · rw [NuR.kd_eqv]; exact decide_eq_true rfl
        · intro i z' hi hz'
          rw [List.getElem?_map, List.getElem?_map] at hz'
          obtain ⟨z2, h2, rfl⟩ := Option.map_eq_some_iff.mp hz'
          obtain ⟨z3, h3, rfl⟩ := Option.map_eq_some_iff.mp h2
          rw [NuR.kd_eqv]
          refine decide_eq_false fun e => ?_
          have e := ik_inj e
          rw [e] at h3
          have := nd_ix hL.nd h3 hzL
          omega
        · have hfu : Sq63.unfold g m0 f' (Sq63.add g m0 u (t, (cs, Nu.needAll u cs))) = g.unfolded m0 := by
            rw [← hf, Sq63.unfold, hsoon]
          have eer : (ks.map V.ref).eraseIdx j = (ks.eraseIdx j).map V.ref := erase_map _ _ _
          rw [eer]
          have hKe : AllAt (KeyAt H') (ks.eraseIdx j) (L.erase (k, t, cs)) := by
            rw [← erase_at hL.nd hzL]
            exact hK.eraseIdx j
          have kp2 : Keep [p] H' (upd H' p (.lst ((ks.eraseIdx j).map V.ref))) := Keep.upd (Keep.same (Same.refl _)) (Or.inl (by simp))
          have U2 : UnfAt c l (wo [p] (upd H' p (.lst ((ks.eraseIdx j).map V.ref)))) x g m0 u B := U.same kp2.wo
          have s2 : Same H (upd H' p (.lst ((ks.eraseIdx j).map V.ref))) := Same.upd' s1 np
          have gp2 : upd H' p (.lst ((ks.eraseIdx j).map V.ref)) p = some (.lst ((ks.eraseIdx j).map V.ref)) := upd_same
          have hK2 : AllAt (KeyAt (upd H' p (.lst ((ks.eraseIdx j).map V.ref)))) (ks.eraseIdx j) (L.erase (k, t, cs)) := hKe.mono fun a z _ h => h.keep kp2 gp
          have hka2 := hka.keep kp2 gp
          generalize upd H' p (.lst ((ks.eraseIdx j).map V.ref)) = H2 at U2 s2 gp2 hK2 hka2 ⊢
          clear kp2
          obtain ⟨b, ha2, hb2⟩ := hka2
          have UH2 := U2.same wo_same
          have hbM : b ∉ l.M := fun e => by
            obtain ⟨ys, hy⟩ := UH2.lsts _ e
            rw [show H2 b = _ from hb2] at hy
            cases hy
          have hbp : b ∉ [p] := fun e => by
            rw [List.mem_singleton.mp e] at hb2
            rw [show H2 p = _ from hb2] at gp2
            cases gp2
          refine ⟨_, rfl, x, l.dx, uF l, rfl, (wo_at UH2.ux).1, nU l "add_event" (by decide +kernel), _, rfl, a, _, _, natV t, rfl, rfl, SqT.of ha2, atI_nat (j := 1) rfl, _, rfl, a, _, _, .ref b, rfl, rfl, SqT.of ha2, atI_nat (j := 2) rfl,
            x, b, [p], l, g, m0, u, B, t, cs, rfl, U2, (fun z hz => by rw [List.mem_singleton.mp hz, gp2]; exact fun e => by cases e), N, O, wo_mk (wo_mk hb2 hbp) hbM, Po, h40, fun H3 ea l' B' U3 O3 eM ees nea k3 => ?_⟩
          have G := Nu.add_grow (g := g) (m0 := m0) (u := u) (cs := cs) ht
          have Gp := Nu.grow_poss G O.good N.ok Po ht O3.bes hL
          have eE := evD_grow G O.good
          generalize Sq63.add g m0 u (t, (cs, Nu.needAll u cs)) = v at *
          generalize Nu.offOf g m0 u t cs = off at *
          have pc := Nu.poss_count O3.good N.ok N.safe N.t8 O3.e40 Gp
          rw [← hk] at Gp pc
          have elen : l.es.length = u.events.length := by rw [U2.uE.len, evD_len]
          have hev := U3.uE.at_ u.events.length ea (newD u v t cs tr.puts.length off) (by rw [ees, ← elen]; simp) (by rw [eE, ← evD_len]; simp)
          obtain ⟨de, us, md, nd, mk, g1, g2, g3, g4, g5⟩ := id hev
          have w3 : ∀ {a : Addr} {o : HO}, wo l'.M (wo [p] H3) a = some o → H3 a = some o := fun h => (wo_at (wo_at h).1).1
          have gp3 := k3 _ _ gp2 pM
          have hK3 : AllAt (KeyAt H3) (ks.eraseIdx j) (L.erase (k, t, cs)) := hK2.mono fun a z _ h => h.keepM k3 UH2.lsts
          have s3 : Same H H3 := fun a o e => k3 _ _ (s2 _ _ e) fun q => by rw [hM _ q] at e; cases e
          have hM3 : ∀ a, a ∈ l'.M → H a = none := by rw [eM]; exact hM
          have pM3 : p ∉ l'.M := by rw [eM]; exact pM
          have UH3 := U3.same wo_same
          have hm3 : f' + v.events.length = 41 := by rw [G.elen]; omega
          refine ⟨_, rfl, ea, c.E, de, _, _, rfl, w3 g1, TE.cl, TE.no _ (by decide +kernel), look (ns := evN) 5 rfl (by decide +kernel) rfl, _, rfl, ?_⟩
          cases off with
          | true =>
            rw [if_pos rfl, List.append_nil] at Gp
            exact iteF ⟨f', Nat.lt_succ_self _, x, p, l', v, B', L.erase (k, t, cs), ks.eraseIdx j, _, _, rfl, s3, nx, U3, O3, hM3, pM3, np, gp3, hK3, Gp, hfu, hm3⟩
          | false =>
            rw [if_neg (by simp), G.made_new O.good] at Gp pc
            rw [List.length_append] at pc
            refine iteT ⟨_, rfl, .inl ⟨rfl, _, SqL.of gp3⟩, _, rfl, x, l'.dx, uF l', rfl, (wo_at UH3.ux).1, nU l' "possible_with" (by decide +kernel), _, rfl, ea, c.E, de, _, _, rfl, w3 g1, TE.cl, TE.no _ (by decide +kernel), look (ns := evN) 2 rfl (by decide +kernel) rfl, ?_⟩
            simp only [tNil]
            show spPos c.U c.N c.T c.C c.E K [V.ref x, V.ref md] H3 _ _
            refine pos_of UH3 N O3 (w3 g3) (fun d hd => ?_) (by show (Nu.possWith g v B' (List.range' u.conds.length tr.puts.length)).length ≤ _; omega) fun H4 q4 ks4 s4 n4 g4' hK4 => ?_
            · have := List.mem_range'_1.mp hd
              rw [G.clen]; omega
            · have n4p : q4 ≠ p := Ne.symm (ne_of_none gp3 n4)
              have hK4 : AllAt (KeyAt H4) ks4 (Nu.possWith g v B' (List.range' u.conds.length tr.puts.length)) := hK4
              refine ⟨p, q4, _, _, rfl, rfl, s4 _ _ gp3, g4', ?_, ?_⟩
              · rw [List.length_map, List.length_map, hK3.len, hK4.len]
                exact Nat.le_of_lt (Nat.lt_of_le_of_lt pc (by decide))
              · have kp5 : Keep [p] H4 (upd H4 p (.lst ((ks.eraseIdx j).map V.ref ++ ks4.map V.ref))) := Keep.upd (Keep.same (Same.refl _)) (Or.inl (by simp))
                have gp4 := s4 _ _ gp3
                refine ⟨f', Nat.lt_succ_self _, x, p, l', v, B', _, ks.eraseIdx j ++ ks4, _, _, rfl, Same.upd' (s3.trans s4) np, nx, ?_, O3, hM3, pM3, np, ?_, ?_, Gp, hfu, hm3⟩
                · exact (U3.same (Keep.same (M := [p]) s4).wo).same kp5.wo
                · rw [upd_same, List.map_append]
                · exact AllAt.app ((hK3.mono fun a z _ h => h.same s4).mono fun a z _ h => h.keep kp5 gp4) (hK4.mono fun a z _ h => h.keep kp5 gp4)
    · have c0 : L = [] := by
        have : L.length = 0 := by
          apply Classical.byContradiction
          intro h
          exact c' (decide_eq_true (by omega))
        exact List.eq_nil_of_length_eq_zero this
      subst c0
      have e : g.unfolded m0 = some u := by
        rw [← hf, Sq63.unfold, Nu.none_soonest hL]
      exact ⟨_, rfl, qS u e H' x l B s1 UH O nx hM⟩
end NuP
end
/-! # NuConf -/
section
set_option linter.all false
namespace Nu
open Sq63
variable {g : Net} {m0 : Places} {u : Unfolding}
/-- events that can have happened, none cut off, as a rising row -/
structure Conf (u : Unfolding) (C : List Nat) : Prop where
  cfg : Cfg u C
  on : ∀ e, e ∈ C → ∃ x, u.events[e]? = some x ∧ x.cut = false
theorem conf_nil : Conf u [] := ⟨⟨List.Pairwise.nil, by simp, by simp, by rintro ⟨e, he, _⟩; simp at he⟩, by simp⟩
theorem Conf.len (h : Conf u C) : C.length ≤ u.events.length := by
  have := nodup_sub_len (rise_nodup h.cfg.rise) (L := List.range u.events.length) fun x hx => List.mem_range.mpr (h.cfg.lt x hx)
  rwa [List.length_range] at this
theorem insert_len {a : Nat} : ∀ {l : List Nat}, l.Pairwise (· < ·) → a ∉ l → (Sq63.insert a l).length = l.length + 1
  | [], _, _ => rfl
  | b :: l, h, n => by
    rw [List.pairwise_cons] at h
    unfold Sq63.insert
    by_cases c : a < b
    · rw [if_pos c]; rfl
    · rw [if_neg c]
      by_cases c2 : a = b
      · exact absurd (by simp [c2]) n
      · rw [if_neg c2, List.length_cons, insert_len h.2 (fun q => n (by simp [q])), List.length_cons]
/-- one event more -/
def fitsE (u : Unfolding) (s : List Nat) (e : Nat) : Bool := match u.events[e]? with
  | some x => !x.cut && (!s.contains e && (within (x.needs.filter fun d => d != e) s && !clash u [e] s))
  | none => false
theorem fitsE_iff {s : List Nat} {e : Nat} : fitsE u s e = true ↔ ∃ x, u.events[e]? = some x ∧ x.cut = false ∧ e ∉ s ∧ (∀ d, d ∈ x.needs → d ≠ e → d ∈ s) ∧ ¬ Clash u [e] s := by
  unfold fitsE
  cases h : u.events[e]? with
  | none => simp
  | some x =>
    simp only [Bool.and_eq_true, Bool.not_eq_true', within_iff, List.mem_filter, bne_iff_ne, Option.some.injEq]
    rw [Bool.eq_false_iff (b := clash u [e] s), Ne, clash_iff]
    constructor
    · rintro ⟨h1, h2, h3, h4⟩
      exact ⟨x, rfl, h1, by simpa using h2, fun d hd hne => h3 d ⟨hd, hne⟩, h4⟩
    · rintro ⟨y, rfl, h1, h2, h3, h4⟩
      exact ⟨h1, by simpa using h2, fun d hd => h3 d hd.1 hd.2, h4⟩
theorem Conf.add (A : Good g m0 u) {s : List Nat} {e : Nat} (h : Conf u s) (hf : fitsE u s e = true) : Conf u (Sq63.insert e s) ∧ (Sq63.insert e s).length = s.length + 1 := by
  obtain ⟨x, hx, h1, h2, h3, h4⟩ := fitsE_iff.mp hf
  refine ⟨⟨⟨insert_rise h.cfg.rise, fun d hd => ?_, fun d hd k hk => ?_, ?_⟩, fun d hd => ?_⟩, insert_len h.cfg.rise h2⟩
  · rcases mem_insert.mp hd with rfl | hd
    · exact (List.getElem?_eq_some_iff.mp hx).1
    · exact h.cfg.lt d hd
  · rcases mem_insert.mp hd with rfl | hd
    · rw [needsE_some hx] at hk
      by_cases q : k = d
      · exact mem_insert.mpr (Or.inl q)
      · exact mem_insert.mpr (Or.inr (h3 k hk q))
    · exact mem_insert.mpr (Or.inr (h.cfg.dc d hd k hk))
  · rintro ⟨a, ha, b, hb, hne, c, hc1, hc2⟩
    rcases mem_insert.mp ha with ea | ha' <;> rcases mem_insert.mp hb with eb | hb'
    · exact hne (ea.trans eb.symm)
    · exact h4 ⟨e, by simp, b, hb', by rw [← ea]; exact hne, c, by rw [← ea]; exact hc1, hc2⟩
    · exact h4 ⟨e, by simp, a, ha', by rw [← eb]; exact Ne.symm hne, c, by rw [← eb]; exact hc2, hc1⟩
    · exact h.cfg.cf ⟨a, ha', b, hb', hne, c, hc1, hc2⟩
  · rcases mem_insert.mp hd with rfl | hd
    · exact ⟨x, hx, h1⟩
    · exact h.on d hd
theorem Conf.drop (A : Good g m0 u) {s : List Nat} {e : Nat} (h : Conf u (s ++ [e])) : Conf u s ∧ fitsE u s e = true ∧ Sq63.insert e s = s ++ [e] := by
  have hr := h.cfg.rise
  rw [List.pairwise_append] at hr
  have lt : ∀ d, d ∈ s → d < e := fun d hd => hr.2.2 d hd e (by simp)
  obtain ⟨x, hx, hcut⟩ := h.on e (by simp)
  have E := A.ev e x hx
  refine ⟨⟨⟨hr.1, fun d hd => h.cfg.lt d (by simp [hd]), fun d hd k hk => ?_, fun q => h.cfg.cf (q.mono (fun z hz => by simp [hz]) fun z hz => by simp [hz])⟩, fun d hd => h.on d (by simp [hd])⟩, fitsE_iff.mpr ⟨x, hx, hcut, fun q => by have := lt e q; omega, fun d hd hne => ?_, fun q => h.cfg.cf (q.mono (fun z hz => by have := List.mem_singleton.mp hz; simp [this]) fun z hz => by simp [hz])⟩, insert_last lt⟩
  · have h1 := h.cfg.dc d (by simp [hd]) k hk
    rcases List.mem_append.mp h1 with h1 | h1
    · exact h1
    · have h2 := (A.needsE_le hk).1
      have := lt d hd
      rw [List.mem_singleton.mp h1] at h2
      omega
  · have h1 := h.cfg.dc e (by simp) d (by rw [needsE_some hx]; exact hd)
    rcases List.mem_append.mp h1 with h1 | h1
    · exact h1
    · exact absurd (List.mem_singleton.mp h1) hne
/-- the next layer -/
def layer (u : Unfolding) (l : List (List Nat)) : List (List Nat) := (l.flatMap fun s => ((List.range u.events.length).filter (fitsE u s)).map fun e => Sq63.insert e s).foldl (fun (k : List (List Nat)) s => if l.contains s || k.contains s then k else k ++ [s]) []
theorem grown_succ (f : Nat) (l : List (List Nat)) : grown u (f + 1) l = if (layer u l).isEmpty = true then l else l ++ grown u f (layer u l) := rfl
theorem fold_layer {l : List (List Nat)} {s : List Nat} : ∀ (m k : List (List Nat)), s ∈ m.foldl (fun (k : List (List Nat)) s => if l.contains s || k.contains s then k else k ++ [s]) k ↔ s ∈ k ∨ (s ∈ m ∧ s ∉ l)
  | [], k => by simp
  | a :: m, k => by
    rw [List.foldl_cons, fold_layer m]
    by_cases h1 : a ∈ l
    · rw [if_pos (by simp [h1])]
      constructor
      · rintro (h | ⟨h, h'⟩)
        · exact Or.inl h
        · exact Or.inr ⟨by simp [h], h'⟩
      · rintro (h | ⟨h, h'⟩)
        · exact Or.inl h
        · rcases List.mem_cons.mp h with rfl | h
          · exact absurd h1 h'
          · exact Or.inr ⟨h, h'⟩
    · by_cases h2 : a ∈ k
      · rw [if_pos (by simp [h2])]
        constructor
        · rintro (h | ⟨h, h'⟩)
          · exact Or.inl h
          · exact Or.inr ⟨by simp [h], h'⟩
        · rintro (h | ⟨h, h'⟩)
          · exact Or.inl h
          · rcases List.mem_cons.mp h with rfl | h
            · exact Or.inl h2
            · exact Or.inr ⟨h, h'⟩
      · rw [if_neg (by simp [h1, h2])]
        constructor
        · rintro (h | ⟨h, h'⟩)
          · rcases List.mem_append.mp h with h | h
            · exact Or.inl h
            · rw [List.mem_singleton.mp h]; exact Or.inr ⟨by simp, h1⟩
          · exact Or.inr ⟨by simp [h], h'⟩
        · rintro (h | ⟨h, h'⟩)
          · exact Or.inl (by simp [h])
          · rcases List.mem_cons.mp h with rfl | h
            · exact Or.inl (by simp)
            · exact Or.inr ⟨h, h'⟩
theorem snoc_of_len {s : List Nat} {k : Nat} (h : s.length = k + 1) : ∃ r e, s = r ++ [e] ∧ r.length = k := by
  rcases snoc_cases s with rfl | ⟨r, e, rfl⟩
  · simp at h
  · exact ⟨r, e, rfl, by simpa using h⟩
theorem mem_layer (A : Good g m0 u) {l : List (List Nat)} {k : Nat} (hl : ∀ s, s ∈ l ↔ Conf u s ∧ s.length = k) (s : List Nat) : s ∈ layer u l ↔ Conf u s ∧ s.length = k + 1 := by
  unfold layer
  rw [fold_layer]
  simp only [List.not_mem_nil, false_or, List.mem_flatMap, List.mem_map, List.mem_filter, List.mem_range]
  constructor
  · rintro ⟨⟨r, hr, e, ⟨_, he⟩, rfl⟩, _⟩
    obtain ⟨h1, h2⟩ := (hl r).mp hr
    obtain ⟨h3, h4⟩ := h1.add A he
    exact ⟨h3, by omega⟩
  · rintro ⟨h1, h2⟩
    obtain ⟨r, e, rfl, hr⟩ := snoc_of_len h2
    obtain ⟨h3, h4, h5⟩ := h1.drop A
    refine ⟨⟨r, (hl r).mpr ⟨h3, hr⟩, e, ⟨h1.cfg.lt e (by simp), h4⟩, h5⟩, fun q => ?_⟩
    have := ((hl _).mp q).2
    omega
theorem conf_down (A : Good g m0 u) : ∀ (n k : Nat) (s : List Nat), Conf u s → s.length = k + n → ∃ r, Conf u r ∧ r.length = k
  | 0, k, s, h, hs => ⟨s, h, hs⟩
  | n + 1, k, s, h, hs => by
    obtain ⟨r, e, rfl, hr⟩ := snoc_of_len (k := k + n) (by omega)
    exact conf_down A n k r (h.drop A).1 hr
theorem mem_grown_from (A : Good g m0 u) (h40 : u.events.length ≤ 40) (s : List Nat) : ∀ (f k : Nat) (l : List (List Nat)), (∀ s, s ∈ l ↔ Conf u s ∧ s.length = k) → 41 ≤ f + k → (s ∈ grown u f l ↔ Conf u s ∧ k ≤ s.length)
  | 0, k, l, hl, hk => by
    show s ∈ l ↔ _
    rw [hl]
    constructor
    · rintro ⟨h1, h2⟩; exact ⟨h1, by omega⟩
    · rintro ⟨h1, h2⟩
      have := h1.len
      omega
  | f + 1, k, l, hl, hk => by
    have hm := mem_layer A hl
    rw [grown_succ]
    by_cases he : (layer u l).isEmpty = true
    · rw [if_pos he, hl]
      constructor
      · rintro ⟨h1, h2⟩; exact ⟨h1, by omega⟩
      · rintro ⟨h1, h2⟩
        refine ⟨h1, ?_⟩
        apply Classical.byContradiction
        intro hne
        obtain ⟨r, h3, h4⟩ := conf_down A (s.length - (k + 1)) (k + 1) s h1 (by omega)
        have := (hm r).mpr ⟨h3, h4⟩
        rw [List.isEmpty_iff.mp he] at this
        simp at this
    · rw [if_neg he, List.mem_append, hl, mem_grown_from A h40 s f (k + 1) _ hm (by omega)]
      constructor
      · rintro (⟨h1, h2⟩ | ⟨h1, h2⟩) <;> exact ⟨h1, by omega⟩
      · rintro ⟨h1, h2⟩
        by_cases q : s.length = k
        · exact Or.inl ⟨h1, q⟩
        · exact Or.inr ⟨h1, by omega⟩
/-- all closed rows without a clash, none cut off -/
theorem mem_grown (A : Good g m0 u) (h40 : u.events.length ≤ 40) (s : List Nat) : s ∈ grown u (EVENTS + 1) [[]] ↔ Conf u s := by
  rw [mem_grown_from A h40 s (EVENTS + 1) 0 [[]] (fun s => ?_) (by show 41 ≤ 41 + 0; omega)]
  · constructor
    · exact fun h => h.1
    · exact fun h => ⟨h, Nat.zero_le _⟩
  · rw [List.mem_singleton]
    constructor
    · rintro rfl; exact ⟨conf_nil, rfl⟩
    · rintro ⟨_, h⟩; exact List.eq_nil_of_length_eq_zero h
end Nu
end
/-! # NuTell -/
section
set_option linter.all false
namespace Nu
open Sq63
theorem mem_put {x a : Places} : ∀ {l : List Places}, x ∈ putPlaces a l ↔ x = a ∨ x ∈ l
  | [] => by simp [putPlaces]
  | y :: l => by
    unfold putPlaces
    by_cases h1 : a = y
    · rw [if_pos h1, h1]; simp
    · rw [if_neg h1]
      by_cases h2 : before a y = true
      · rw [if_pos h2]; simp
      · rw [if_neg h2, List.mem_cons, mem_put, List.mem_cons]
        constructor
        · rintro (h | h | h)
          · exact Or.inr (Or.inl h)
          · exact Or.inl h
          · exact Or.inr (Or.inr h)
        · rintro (h | h | h)
          · exact Or.inr (Or.inl h)
          · exact Or.inl h
          · exact Or.inr (Or.inr h)
abbrev Sorted (l : List Places) : Prop := l.Pairwise fun a b => before a b = true
theorem put_sorted {a : Places} : ∀ {l : List Places}, Sorted l → Sorted (putPlaces a l)
  | [], _ => by simp [putPlaces, Sorted]
  | y :: l, h => by
    have h' := h
    unfold Sorted at h'
    rw [List.pairwise_cons] at h'
    unfold putPlaces
    by_cases h1 : a = y
    · rw [if_pos h1]; exact h
    · rw [if_neg h1]
      by_cases h2 : before a y = true
      · rw [if_pos h2]
        refine List.pairwise_cons.mpr ⟨fun z hz => ?_, h⟩
        rcases List.mem_cons.mp hz with rfl | hz
        · exact h2
        · exact before_trans h2 (h'.1 z hz)
      · rw [if_neg h2]
        refine List.pairwise_cons.mpr ⟨fun z hz => ?_, put_sorted h'.2⟩
        rcases mem_put.mp hz with rfl | hz
        · rcases before_total z y with q | q | q
          · exact absurd q h2
          · exact absurd q h1
          · exact q
        · exact h'.1 z hz
theorem fold_put : ∀ (ms l : List Places), Sorted l → Sorted (ms.foldl (fun s m => putPlaces m s) l) ∧ ∀ x, x ∈ ms.foldl (fun s m => putPlaces m s) l ↔ x ∈ ms ∨ x ∈ l
  | [], l, h => ⟨h, by simp⟩
  | m :: ms, l, h => by
    rw [List.foldl_cons]
    obtain ⟨h1, h2⟩ := fold_put ms _ (put_sorted (a := m) h)
    refine ⟨h1, fun x => ?_⟩
    rw [h2, mem_put, List.mem_cons]
    constructor
    · rintro (h | h | h)
      · exact Or.inl (Or.inr h)
      · exact Or.inl (Or.inl h)
      · exact Or.inr h
    · rintro ((h | h) | h)
      · exact Or.inr (Or.inl h)
      · exact Or.inl h
      · exact Or.inr (Or.inr h)
theorem sorted_ext : ∀ {a b : List Places}, Sorted a → Sorted b → (∀ x, x ∈ a ↔ x ∈ b) → a = b
  | [], [], _, _, _ => rfl
  | [], y :: b, _, _, h => by have := (h y).mpr (by simp); simp at this
  | x :: a, [], _, _, h => by have := (h x).mp (by simp); simp at this
  | x :: a, y :: b, ha, hb, h => by
    unfold Sorted at ha hb
    rw [List.pairwise_cons] at ha hb
    have no : ∀ {z : Places}, before z z = true → False := fun {z} q => by rw [before_irrefl] at q; cases q
    have e : x = y := by
      rcases List.mem_cons.mp ((h x).mp (by simp)) with q | q
      · exact q
      · rcases List.mem_cons.mp ((h y).mpr (by simp)) with q2 | q2
        · exact q2.symm
        · exact absurd (before_trans (hb.1 x q) (ha.1 y q2)) fun q => no q
    subst e
    refine congrArg _ (sorted_ext ha.2 hb.2 fun z => ?_)
    constructor
    · intro hz
      rcases List.mem_cons.mp ((h z).mp (by simp [hz])) with q | q
      · subst q; exact (no (ha.1 z hz)).elim
      · exact q
    · intro hz
      rcases List.mem_cons.mp ((h z).mpr (by simp [hz])) with q | q
      · subst q; exact (no (hb.1 z hz)).elim
      · exact q
/-- the markings that are told, in their order -/
theorem told_markings {ms r : List Places} (hr : Sorted r) (hm : ∀ x, x ∈ r ↔ x ∈ ms) : ms.foldl (fun s m => putPlaces m s) [] = r := by
  obtain ⟨h1, h2⟩ := fold_put ms [] List.Pairwise.nil
  exact sorted_ext h1 hr fun x => by rw [h2, hm]; simp
/-! ### fewest -/
def Fewer (a b : List Nat) : Prop := a.length < b.length ∨ (a.length = b.length ∧ before a b = true)
theorem fewer_trans {a b c : List Nat} (h1 : Fewer a b) (h2 : Fewer b c) : Fewer a c := by
  rcases h1 with h1 | ⟨h1, q1⟩ <;> rcases h2 with h2 | ⟨h2, q2⟩
  · exact Or.inl (by omega)
  · exact Or.inl (by omega)
  · exact Or.inl (by omega)
  · exact Or.inr ⟨by omega, before_trans q1 q2⟩
theorem fewer_irrefl (a : List Nat) : ¬ Fewer a a := by
  rintro (h | ⟨_, h⟩)
  · omega
  · rw [before_irrefl] at h; cases h
theorem fewer_total (a b : List Nat) : Fewer a b ∨ a = b ∨ Fewer b a := by
  rcases Nat.lt_trichotomy a.length b.length with h | h | h
  · exact Or.inl (Or.inl h)
  · rcases before_total a b with q | q | q
    · exact Or.inl (Or.inr ⟨h, q⟩)
    · exact Or.inr (Or.inl q)
    · exact Or.inr (Or.inr (Or.inr ⟨h.symm, q⟩))
  · exact Or.inr (Or.inr (Or.inl h))
def fewStep (m : Option (List Nat)) (s : List Nat) : Option (List Nat) := match m with
  | none => some s
  | some r => if s.length < r.length ∨ (s.length = r.length ∧ before s r = true) then some s else some r
theorem fewest_eq (l : List (List Nat)) : fewest l = l.foldl fewStep none := rfl
theorem few_fold : ∀ (l : List (List Nat)) (y : List Nat), ∃ z, l.foldl fewStep (some y) = some z ∧ (z = y ∨ z ∈ l) ∧ ¬ Fewer y z ∧ ∀ w, w ∈ l → ¬ Fewer w z
  | [], y => ⟨y, rfl, Or.inl rfl, fewer_irrefl y, by simp⟩
  | x :: l, y => by
    rw [List.foldl_cons]
    by_cases h : Fewer x y
    · rw [show fewStep (some y) x = some x from if_pos h]
      obtain ⟨z, h1, h2, h3, h4⟩ := few_fold l x
      refine ⟨z, h1, Or.inr ?_, fun q => ?_, fun w hw => ?_⟩
      · rcases h2 with rfl | h2
        · simp
        · simp [h2]
      · exact h3 (fewer_trans h q)
      · rcases List.mem_cons.mp hw with rfl | hw
        · exact h3
        · exact h4 w hw
    · rw [show fewStep (some y) x = some y from if_neg h]
      obtain ⟨z, h1, h2, h3, h4⟩ := few_fold l y
      refine ⟨z, h1, h2.imp id fun q => by simp [q], h3, fun w hw => ?_⟩
      rcases List.mem_cons.mp hw with rfl | hw
      · intro q
        rcases fewer_total y z with r | r | r
        · exact h3 r
        · exact h (by rw [r]; exact q)
        · exact h (fewer_trans q r)
      · exact h4 w hw
theorem fewest_some {l : List (List Nat)} {s : List Nat} (h1 : s ∈ l) (h2 : ∀ w, w ∈ l → ¬ Fewer w s) : fewest l = some s := by
  rw [fewest_eq]
  cases l with
  | nil => simp at h1
  | cons a l =>
    rw [List.foldl_cons]
    obtain ⟨z, e, hz, q1, q2⟩ := few_fold l a
    show l.foldl fewStep (some a) = some s
    rw [e]
    have hz' : z ∈ a :: l := by
      rcases hz with rfl | hz
      · simp
      · simp [hz]
    have n1 := h2 z hz'
    have n2 : ¬ Fewer s z := by
      rcases List.mem_cons.mp h1 with rfl | h
      · exact q1
      · exact q2 s h
    rcases fewer_total z s with r | r | r
    · exact absurd r n1
    · rw [r]
    · exact absurd r n2
theorem fewest_none {l : List (List Nat)} (h : ∀ s, s ∉ l) : fewest l = none := by
  cases l with
  | nil => rfl
  | cons a l => exact absurd (by simp) (h a)
end Nu
end
/-! # NuRows -/
section
set_option linter.all false
namespace Nu
open Sq63
variable {g : Net} {m0 : Places} {u : Unfolding}
/-! ### rows of numbers as bits -/
theorem pows_nil : pows [] = 0 := rfl
theorem pows_cons (a : Nat) (l : List Nat) : pows (a :: l) = 2 ^ a + pows l := by unfold pows; rw [List.map_cons, List.sum_cons]
theorem pows_append (a b : List Nat) : pows (a ++ b) = pows a + pows b := by unfold pows; rw [List.map_append, List.sum_append]
theorem bit_add {x a : Nat} (h : x.testBit a = false) (d : Nat) : (2 ^ a + x).testBit d = (decide (d = a) || x.testBit d) := by
  have hr : x % 2 ^ (a + 1) < 2 ^ a := by
    refine Nat.lt_pow_two_of_testBit _ fun i hi => ?_
    rw [Nat.testBit_mod_two_pow]
    by_cases q : i = a
    · subst q; rw [h, Bool.and_false]
    · rw [decide_eq_false (by omega), Bool.false_and]
  have e : x = 2 ^ (a + 1) * (x / 2 ^ (a + 1)) + x % 2 ^ (a + 1) := (Nat.div_add_mod x _).symm
  generalize x / 2 ^ (a + 1) = q at e
  generalize x % 2 ^ (a + 1) = r at e hr
  have p : (2 : Nat) ^ (a + 1) = 2 ^ a + 2 ^ a := by rw [Nat.pow_succ]; omega
  have e2 : 2 ^ a + x = 2 ^ (a + 1) * q + (2 ^ a + r) := by omega
  rw [e2, Nat.testBit_two_pow_mul_add _ (by omega)]
  rw [e, Nat.testBit_two_pow_mul_add _ (by omega)]
  by_cases c : d < a + 1
  · rw [if_pos c, if_pos c]
    by_cases c2 : d = a
    · subst c2
      rw [decide_eq_true rfl, Bool.true_or]
      rw [Nat.testBit_two_pow_add_eq, Nat.testBit_lt_two_pow hr]
      rfl
    · rw [decide_eq_false c2, Bool.false_or, Nat.testBit_two_pow_add_gt (by omega)]
  · rw [if_neg c, if_neg c, decide_eq_false (by omega), Bool.false_or]
theorem bit_pows : ∀ {l : List Nat}, l.Nodup → ∀ d, (pows l).testBit d = decide (d ∈ l)
  | [], _, d => by rw [pows_nil]; simp
  | a :: l, h, d => by
    rw [List.nodup_cons] at h
    rw [pows_cons, bit_add (by rw [bit_pows h.2]; exact decide_eq_false h.1), bit_pows h.2]
    by_cases c : d = a <;> by_cases c2 : d ∈ l <;> simp [c, c2]
theorem pows_ext {a b : List Nat} (ha : a.Nodup) (hb : b.Nodup) (h : ∀ x, x ∈ a ↔ x ∈ b) : pows a = pows b := by
  refine Nat.eq_of_testBit_eq fun d => ?_
  rw [bit_pows ha, bit_pows hb, decide_eq_decide]
  exact h d
theorem pows_sub {a b : List Nat} (ha : a.Nodup) (hb : b.Nodup) : pows a &&& pows b = pows b ↔ ∀ x, x ∈ b → x ∈ a := by
  constructor
  · intro h x hx
    have := congrArg (fun z => z.testBit x) h
    simp only [Nat.testBit_and] at this
    rw [bit_pows ha, bit_pows hb, decide_eq_true hx, Bool.and_true] at this
    exact of_decide_eq_true this
  · intro h
    refine Nat.eq_of_testBit_eq fun d => ?_
    rw [Nat.testBit_and, bit_pows ha, bit_pows hb]
    by_cases c : d ∈ b
    · simp [c, h d c]
    · simp [c]
/-! ### one event more -/
theorem conf_next (A : Good g m0 u) {s : List Nat} {e : Nat} {x : Event} (hs : Conf u s) (hx : u.events[e]? = some x) (hc : x.cut = false) (hlt : ∀ d, d ∈ s → d < e) : Conf u (s ++ [e]) ↔ ∀ c, c ∈ x.used → c ∈ cut u s := by
  constructor
  · intro h c hcu
    exact (Cfg.last A h.cfg).used A (by rw [usedOf_some hx]; exact hcu)
  · intro h
    have hf : fitsE u s e = true := by
      refine fitsE_iff.mpr ⟨x, hx, hc, fun q => Nat.lt_irrefl _ (hlt e q), fun d hd hne => ?_, ?_⟩
      · rw [(A.ev e x hx).needs] at hd
        rcases mem_insert.mp hd with q | q
        · exact absurd q hne
        · obtain ⟨c, hc1, hc2⟩ := mem_needAll.mp q
          obtain ⟨m, hm, hd2⟩ := needsOf_mem hc2
          exact hs.cfg.dc m ((mem_cut.mp (h c hc1)).2.1 m hm) d hd2
      · rintro ⟨e', he', f, hf, hne, c, hc1, hc2⟩
        rw [List.mem_singleton.mp he', usedOf_some hx] at hc1
        exact (mem_cut.mp (h c hc1)).2.2 f hf hc2
    have := (hs.add A hf).1
    rw [insert_last hlt] at this
    exact this
theorem pows_next (A : Good g m0 u) (N : NetOk g m0) {s : List Nat} {e : Nat} (h : Cfg u (s ++ [e])) : pows (usedOf u e) ≤ pows (cut u s) ∧ pows (cut u s) - pows (usedOf u e) + pows (madeOf u e) = pows (cut u (s ++ [e])) := by
  have L := Cfg.last A h
  have un := used_nodup A N (e := e)
  have e1 : pows (cut u s) = pows (usedOf u e) + pows ((cut u s).filter fun c => decide (c ∉ usedOf u e)) := by
    rw [← pows_append]
    refine pows_ext (cut_nodup s) ?_ fun c => ?_
    · rw [List.nodup_append]
      refine ⟨un, List.Nodup.sublist List.filter_sublist (cut_nodup s), fun a ha b hb q => ?_⟩
      subst q
      exact of_decide_eq_true (List.mem_filter.mp hb).2 ha
    · rw [List.mem_append, List.mem_filter, decide_eq_true_iff]
      constructor
      · intro hc
        by_cases q : c ∈ usedOf u e
        · exact Or.inl q
        · exact Or.inr ⟨hc, q⟩
      · rintro (q | q)
        · exact L.used A q
        · exact q.1
  have mn : (madeOf u e).Nodup := List.Nodup.sublist List.filter_sublist List.nodup_range
  have e2 : pows (cut u (s ++ [e])) = pows ((cut u s).filter fun c => decide (c ∉ usedOf u e)) + pows (madeOf u e) := by
    rw [← pows_append]
    refine pows_ext (cut_nodup _) ?_ fun c => ?_
    · rw [List.nodup_append]
      refine ⟨List.Nodup.sublist List.filter_sublist (cut_nodup s), mn, fun a ha b hb q => ?_⟩
      subst q
      have h1 := (mem_cut.mp (List.mem_filter.mp ha).1).2.1 e (mem_made.mp hb).2
      have hr := h.rise
      rw [List.pairwise_append] at hr
      exact absurd (hr.2.2 e h1 e (by simp)) (Nat.lt_irrefl _)
    · rw [L.cut_iff A, List.mem_append, List.mem_filter, decide_eq_true_iff]
  omega
/-! ### all rows -/
def rowNext (u : Unfolding) (e : Nat) (R : List (List Nat × Nat)) : List (List Nat × Nat) := (R.filter fun r => decide (r.2 &&& pows (usedOf u e) = pows (usedOf u e))).map fun r => (r.1 ++ [e], r.2 - pows (usedOf u e) + pows (madeOf u e))
def cutE (u : Unfolding) (e : Nat) : Bool := ((u.events[e]?).map fun x => x.cut).getD true
def rowsTo (u : Unfolding) : Nat → List (List Nat × Nat)
  | 0 => [([], pows (firstOf u))]
  | e + 1 => if cutE u e = true then rowsTo u e else rowsTo u e ++ rowNext u e (rowsTo u e)
structure RowsOk (u : Unfolding) (k : Nat) (R : List (List Nat × Nat)) : Prop where
  nd : (R.map (·.1)).Nodup
  mem : ∀ s, s ∈ R.map (·.1) ↔ Conf u s ∧ ∀ d, d ∈ s → d < k
  bits : ∀ r, r ∈ R → r.2 = pows (cut u r.1)
theorem rows_ok (A : Good g m0 u) (N : NetOk g m0) : ∀ k, k ≤ u.events.length → RowsOk u k (rowsTo u k)
  | 0, _ => by
    refine ⟨by simp [rowsTo], fun s => ?_, fun r hr => ?_⟩
    · show s ∈ [[]] ↔ _
      rw [List.mem_singleton]
      constructor
      · rintro rfl; exact ⟨conf_nil, by simp⟩
      · rintro ⟨_, h⟩
        cases s with
        | nil => rfl
        | cons a s => exact absurd (h a (by simp)) (Nat.not_lt_zero _)
    · rw [List.mem_singleton.mp hr, cut_nil]
  | e + 1, hk => by
    have ih := rows_ok A N e (by omega)
    have he : e < u.events.length := by omega
    have hx := List.getElem?_eq_getElem he
    generalize u.events[e] = x at hx
    have hcut : cutE u e = x.cut := by unfold cutE; rw [hx]; rfl
    unfold rowsTo
    rw [hcut]
    cases hc : x.cut with
    | true =>
      rw [if_pos rfl]
      refine ⟨ih.nd, fun s => ?_, ih.bits⟩
      rw [ih.mem]
      constructor
      · rintro ⟨h1, h2⟩; exact ⟨h1, fun d hd => by have := h2 d hd; omega⟩
      · rintro ⟨h1, h2⟩
        refine ⟨h1, fun d hd => ?_⟩
        have := h2 d hd
        have : d ≠ e := fun q => by
          obtain ⟨y, hy, hyc⟩ := h1.on d hd
          rw [q, hx] at hy
          cases hy
          rw [hc] at hyc
          cases hyc
        omega
    | false =>
      rw [if_neg (by simp)]
      have un := used_nodup A N (e := e)
      have key : ∀ r, r ∈ rowsTo u e → (r.2 &&& pows (usedOf u e) = pows (usedOf u e) ↔ Conf u (r.1 ++ [e])) := fun r hr => by
        obtain ⟨h1, h2⟩ := (ih.mem r.1).mp (List.mem_map.mpr ⟨r, hr, rfl⟩)
        rw [conf_next A h1 hx hc h2, ih.bits r hr, pows_sub (cut_nodup _) un, usedOf_some hx]
      have memN : ∀ s, s ∈ (rowNext u e (rowsTo u e)).map (·.1) ↔ ∃ r, r ∈ (rowsTo u e).map (·.1) ∧ Conf u (r ++ [e]) ∧ s = r ++ [e] := fun s => by
        unfold rowNext
        rw [List.map_map, List.mem_map]
        constructor
        · rintro ⟨r, hr, rfl⟩
          obtain ⟨h1, h2⟩ := List.mem_filter.mp hr
          exact ⟨r.1, List.mem_map.mpr ⟨r, h1, rfl⟩, (key r h1).mp (of_decide_eq_true h2), rfl⟩
        · rintro ⟨r1, hr, hcf, rfl⟩
          obtain ⟨r, hr2, rfl⟩ := List.mem_map.mp hr
          exact ⟨r, List.mem_filter.mpr ⟨hr2, decide_eq_true ((key r hr2).mpr hcf)⟩, rfl⟩
      refine ⟨?_, fun s => ?_, fun r hr => ?_⟩
      · rw [List.map_append, List.nodup_append]
        refine ⟨ih.nd, ?_, fun a ha b hb q => ?_⟩
        · unfold rowNext
          rw [List.map_map]
          have nd2 : ((((rowsTo u e).filter fun r => decide (r.2 &&& pows (usedOf u e) = pows (usedOf u e)))).map (·.1)).Nodup := List.Nodup.sublist (List.Sublist.map _ List.filter_sublist) ih.nd
          rw [List.Nodup, List.pairwise_map] at nd2 ⊢
          refine nd2.imp fun {a b} h q => h ?_
          exact List.append_cancel_right (show a.1 ++ [e] = b.1 ++ [e] from q)
        · subst q
          obtain ⟨r, _, _, rfl⟩ := (memN a).mp hb
          exact absurd (((ih.mem _).mp ha).2 e (by simp)) (Nat.lt_irrefl _)
      · rw [List.map_append, List.mem_append, memN, ih.mem]
        constructor
        · rintro (⟨h1, h2⟩ | ⟨r, hr, hcf, rfl⟩)
          · exact ⟨h1, fun d hd => by have := h2 d hd; omega⟩
          · refine ⟨hcf, fun d hd => ?_⟩
            rcases List.mem_append.mp hd with q | q
            · have := ((ih.mem r).mp hr).2 d q; omega
            · rw [List.mem_singleton.mp q]; omega
        · rintro ⟨h1, h2⟩
          by_cases q : e ∈ s
          · right
            have hrise := h1.cfg.rise
            rcases snoc_cases s with rfl | ⟨r, b, rfl⟩
            · simp at q
            · have hb : b = e := by
                rw [List.pairwise_append] at hrise
                have h3 := h2 b (by simp)
                rcases List.mem_append.mp q with q | q
                · have := hrise.2.2 e q b (by simp); omega
                · exact (List.mem_singleton.mp q).symm
              subst hb
              refine ⟨r, (ih.mem r).mpr ⟨(h1.drop A).1, fun d hd => ?_⟩, h1, rfl⟩
              rw [List.pairwise_append] at hrise
              exact hrise.2.2 d hd b (by simp)
          · left
            refine ⟨h1, fun d hd => ?_⟩
            have := h2 d hd
            have : d ≠ e := fun z => q (z ▸ hd)
            omega
      · rcases List.mem_append.mp hr with hr | hr
        · exact ih.bits r hr
        · obtain ⟨r', hr', rfl⟩ := List.mem_map.mp hr
          obtain ⟨h1, h2⟩ := List.mem_filter.mp hr'
          have hcf := (key r' h1).mp (of_decide_eq_true h2)
          show r'.2 - pows (usedOf u e) + pows (madeOf u e) = pows (cut u (r'.1 ++ [e]))
          rw [ih.bits r' h1]
          exact (pows_next A N hcf.cfg).2
theorem rows_all (A : Good g m0 u) (N : NetOk g m0) (s : List Nat) : s ∈ (rowsTo u u.events.length).map (·.1) ↔ Conf u s := by
  rw [(rows_ok A N _ (Nat.le_refl _)).mem]
  exact ⟨fun h => h.1, fun h => ⟨h, h.cfg.lt⟩⟩
/-- there are not many rows -/
theorem count_cfg (A : Good g m0 u) (N : NetOk g m0) (S : Safe g m0) (h8 : g.ts.length ≤ 8) (h40 : u.events.length ≤ 40) {L : List (List Nat)} (nd : L.Nodup) (hL : ∀ C, C ∈ L → Cfg u C) : L.length ≤ 6 ^ 8 := by
  let evT : Nat → List (Option Nat) := fun t => none :: ((List.range u.events.length).filter fun e => trOf u e == t).map some
  have h1 : (L.map fun C => sig g u C).Nodup := by
    rw [List.Nodup, List.pairwise_map]
    exact List.Pairwise.imp_of_mem (fun {a b} ha hb hne q => hne (sig_inj A N S (hL a ha) (hL b hb) q)) nd
  have h2 := nodup_sub_len (L := prods ((List.range g.ts.length).map evT)) h1 fun x hx => by
    obtain ⟨C, hC, rfl⟩ := List.mem_map.mp hx
    rw [mem_prods]
    refine ⟨by simp [sig], fun i a l ha hl => ?_⟩
    unfold sig at ha
    rw [List.getElem?_map] at ha hl
    cases hi : (List.range g.ts.length)[i]? with
    | none => rw [hi] at ha; cases ha
    | some t =>
      rw [hi] at ha hl
      have ha := Option.some.inj ha
      have hl := Option.some.inj hl
      subst ha hl
      cases q : lastOf u C t with
      | none => simp [evT]
      | some e =>
        have hm := List.mem_of_getLast? (show (C.filter fun e => trOf u e == t).getLast? = some e from q)
        obtain ⟨h3, h4⟩ := List.mem_filter.mp hm
        refine List.mem_cons_of_mem _ (List.mem_map.mpr ⟨e, List.mem_filter.mpr ⟨List.mem_range.mpr ((hL C hC).lt e h3), h4⟩, rfl⟩)
  rw [List.length_map, prods_len, List.map_map] at h2
  refine Nat.le_trans h2 ?_
  have e : (List.range g.ts.length).map (List.length ∘ evT) = ((List.range g.ts.length).map fun t => ((List.range u.events.length).filter fun e => trOf u e == t).length).map (1 + ·) := by
    rw [List.map_map]
    refine List.map_congr_left fun t _ => ?_
    show (none :: _).length = 1 + _
    rw [List.length_cons, List.length_map, Nat.add_comm]
  rw [e]
  refine prod_bound' (by simpa using h8) ?_
  have := sum_parts (trOf u) (List.range u.events.length) g.ts.length
  rw [List.length_range] at this
  omega
theorem rowsTo_len (A : Good g m0 u) (N : NetOk g m0) (S : Safe g m0) (h8 : g.ts.length ≤ 8) (h40 : u.events.length ≤ 40) {k : Nat} (hk : k ≤ u.events.length) : (rowsTo u k).length ≤ 6 ^ 8 := by
  have R := rows_ok A N k hk
  have := count_cfg A N S h8 h40 R.nd fun C hC => ((R.mem C).mp hC).1.cfg
  rw [List.length_map] at this
  exact this
/-! ### the ways -/
structure WaysTo (u : Unfolding) (R : List (List Nat)) (W : List (List Nat × List Nat)) : Prop where
  nd : (W.map (·.1)).Nodup
  at_ : ∀ m r, (m, r) ∈ W → r ∈ R ∧ markingOf u r = m ∧ ∀ w, w ∈ R → markingOf u w = m → ¬ Fewer w r
  all : ∀ w, w ∈ R → markingOf u w ∈ W.map (·.1)
theorem ways_nil : WaysTo u [] [] := ⟨by simp, by simp, by simp⟩
theorem ways_old {R : List (List Nat)} {W : List (List Nat × List Nat)} {x : List Nat} (h : WaysTo u R W) (hs : ∀ r, r ∈ R → ¬ Fewer x r) (hm : markingOf u x ∈ W.map (·.1)) : WaysTo u (R ++ [x]) W := by
  refine ⟨h.nd, fun m r hr => ?_, fun w hw => ?_⟩
  · obtain ⟨h1, h2, h3⟩ := h.at_ m r hr
    refine ⟨by simp [h1], h2, fun w hw hwm => ?_⟩
    rcases List.mem_append.mp hw with q | q
    · exact h3 w q hwm
    · rw [List.mem_singleton.mp q]; exact hs r h1
  · rcases List.mem_append.mp hw with q | q
    · exact h.all w q
    · rw [List.mem_singleton.mp q]; exact hm
theorem ways_new {R : List (List Nat)} {W : List (List Nat × List Nat)} {x : List Nat} (h : WaysTo u R W) (hm : markingOf u x ∉ W.map (·.1)) : WaysTo u (R ++ [x]) (W ++ [(markingOf u x, x)]) := by
  refine ⟨?_, fun m r hr => ?_, fun w hw => ?_⟩
  · rw [List.map_append, List.nodup_append]
    refine ⟨h.nd, by simp, fun a ha b hb q => ?_⟩
    subst q
    rw [show a = markingOf u x by simpa using hb] at ha
    exact hm ha
  · rcases List.mem_append.mp hr with q | q
    · obtain ⟨h1, h2, h3⟩ := h.at_ m r q
      refine ⟨by simp [h1], h2, fun w hw hwm => ?_⟩
      rcases List.mem_append.mp hw with q' | q'
      · exact h3 w q' hwm
      · rw [List.mem_singleton.mp q'] at hwm
        exact absurd (List.mem_map.mpr ⟨(m, r), q, hwm.symm⟩) hm
    · have e := List.mem_singleton.mp q
      have e1 := (Prod.mk.inj e).1
      have e2 := (Prod.mk.inj e).2
      subst e1 e2
      refine ⟨by simp, rfl, fun w hw hwm => ?_⟩
      rcases List.mem_append.mp hw with q' | q'
      · have := h.all w q'
        rw [hwm] at this
        exact absurd this hm
      · rw [List.mem_singleton.mp q']; exact fewer_irrefl _
  · rw [List.map_append, List.mem_append]
    rcases List.mem_append.mp hw with q | q
    · exact Or.inl (h.all w q)
    · rw [List.mem_singleton.mp q]; exact Or.inr (by simp)
/-- the way to each marking -/
structure WaysOk (u : Unfolding) (W : List (List Nat × List Nat)) : Prop where
  nd : (W.map (·.1)).Nodup
  at_ : ∀ m r, (m, r) ∈ W → Conf u r ∧ markingOf u r = m ∧ ∀ w, Conf u w → markingOf u w = m → ¬ Fewer w r
  all : ∀ w, Conf u w → markingOf u w ∈ W.map (·.1)
theorem WaysTo.ok {R : List (List Nat)} {W : List (List Nat × List Nat)} (h : WaysTo u R W) (hR : ∀ s, s ∈ R ↔ Conf u s) : WaysOk u W :=
  ⟨h.nd, fun m r hr => ⟨(hR r).mp (h.at_ m r hr).1, (h.at_ m r hr).2.1, fun w hw => (h.at_ m r hr).2.2 w ((hR w).mpr hw)⟩, fun w hw => h.all w ((hR w).mpr hw)⟩
/-- sorted by length, those of one length as they stood, sorted -/
theorem pair_class {α : Type} (f : α → Nat) (R : α → α → Prop) : ∀ (l : List α), (∀ n, (l.filter fun a => decide (f a = n)).Pairwise R) → l.Pairwise fun a b => f a = f b → R a b
  | [], _ => List.Pairwise.nil
  | a :: l, h => by
    refine List.pairwise_cons.mpr ⟨fun b hb e => ?_, pair_class f R l fun n => ?_⟩
    · have := h (f a)
      rw [List.filter_cons, if_pos (decide_eq_true rfl), List.pairwise_cons] at this
      exact this.1 b (List.mem_filter.mpr ⟨hb, decide_eq_true e.symm⟩)
    · have := h n
      rw [List.filter_cons] at this
      split at this
      · exact (List.pairwise_cons.mp this).2
      · exact this
/-! ### what reach and way answer -/
theorem reach_told {h : House} (A : Good h.g h.m h.u) (h40 : h.u.events.length ≤ 40) {W : List (List Nat × List Nat)} (hW : WaysOk h.u W) {r : List Places} (hr : Sorted r) (hm : ∀ x, x ∈ r ↔ x ∈ W.map (·.1)) :
    h.step .reach = (h, ⟨r.length, Sq63.ints (r.flatMap fun m => m.length :: m)⟩) := by
  have e : ((grown h.u (EVENTS + 1) [[]]).map (markingOf h.u)).foldl (fun s m => putPlaces m s) [] = r := by
    refine told_markings hr fun x => ?_
    rw [hm, List.mem_map, List.mem_map]
    constructor
    · rintro ⟨⟨m, s⟩, hs, rfl⟩
      obtain ⟨h1, h2, _⟩ := hW.at_ m s hs
      exact ⟨s, (mem_grown A h40 s).mpr h1, h2⟩
    · rintro ⟨s, hs, rfl⟩
      exact List.mem_map.mp (hW.all s ((mem_grown A h40 s).mp hs))
  show (h, (⟨(((grown h.u (EVENTS + 1) [[]]).map (markingOf h.u)).foldl (fun s m => putPlaces m s) []).length, _⟩ : Out)) = _
  rw [e]
theorem way_bad {h : House} {m : List Nat} (hm : placesOk h.g.n m = false) : h.step (.way m) = (h, says (-3)) := if_pos hm
theorem way_none {h : House} {m : List Nat} (hm : placesOk h.g.n m = true) (A : Good h.g h.m h.u) (h40 : h.u.events.length ≤ 40) {W : List (List Nat × List Nat)} (hW : WaysOk h.u W) (hn : m ∉ W.map (·.1)) : h.step (.way m) = (h, says (-2)) := by
  refine (if_neg (by rw [hm]; simp)).trans ?_
  rw [fewest_none (l := (grown h.u (EVENTS + 1) [[]]).filter fun s => markingOf h.u s == m) fun s hs => ?_]
  obtain ⟨h1, h2⟩ := List.mem_filter.mp hs
  have h2 : markingOf h.u s = m := by simpa using h2
  have := hW.all s ((mem_grown A h40 s).mp h1)
  rw [h2] at this
  exact hn this
theorem way_some {h : House} {m r : List Nat} (hm : placesOk h.g.n m = true) (A : Good h.g h.m h.u) (h40 : h.u.events.length ≤ 40) {W : List (List Nat × List Nat)} (hW : WaysOk h.u W) (hr : (m, r) ∈ W) : h.step (.way m) = (h, ⟨r.length, Sq63.ints (r.map fun e => ((h.u.events[e]?).map fun x => x.t).getD 0)⟩) := by
  refine (if_neg (by rw [hm]; simp)).trans ?_
  obtain ⟨h1, h2, h3⟩ := hW.at_ m r hr
  rw [fewest_some (l := (grown h.u (EVENTS + 1) [[]]).filter fun s => markingOf h.u s == m) (s := r) (List.mem_filter.mpr ⟨(mem_grown A h40 r).mpr h1, by simp [h2]⟩) fun w hw => ?_]
  obtain ⟨h4, h5⟩ := List.mem_filter.mp hw
  exact h3 w ((mem_grown A h40 w).mp h4) (by simpa using h5)
end Nu
end
/-! # NuP20 -/
section
set_option Elab.async false
set_option maxRecDepth 100000
set_option maxHeartbeats 4000000
set_option linter.all false
namespace NuP
open PySem PySem.Spec PyProof.Rows L2
open Sq63 (Net Places Transition Unfolding House)
variable {P : Program} {w : World} {K : PySem.W.Frag} {mg : Str → Option Value} {base : Heap}
abbrev lN : List Str := ["unfolding", "ways"]
def lF (ux : Addr) (wv : V) : List (Str × V) := [("unfolding", .ref ux), ("ways", wv)]
/-- the ways, as they stand in the dict -/
def kvW (W : List (List Nat × List Nat)) (as : List Addr) : List (List Key × V) := (W.zip as).map fun p => (p.1.1.map (fun n : Nat => (Sum.inl (n : Int) : Key)), V.ref p.2)
/-- the ways are not known yet, or stand at wd -/
def WayV (H : Hp) (u : Unfolding) (wv : V) : Prop := wv = .non ∨ ∃ (wd : Addr) (W : List (List Nat × List Nat)) (as : List Addr), wv = .ref wd ∧ H wd = some (.dT (kvW W as)) ∧ Nu.WaysOk u W ∧ AllAt (fun a (w : List Nat × List Nat) => TupAt H a w.2) as W
theorem WayV.same {H H' : Hp} {u : Unfolding} {wv : V} (h : WayV H u wv) (s : Same H H') : WayV H' u wv := by
  rcases h with h | ⟨wd, W, as, h1, h2, h3, h4⟩
  · exact .inl h
  · exact .inr ⟨wd, W, as, h1, s _ _ h2, h3, h4.mono fun a d _ h => s _ _ h⟩
/-- where only an object of some class changes -/
theorem WayV.keepI {H H' : Hp} {u : Unfolding} {wv : V} {y C d : Addr} {fs : List (Str × V)} (h : WayV H u wv) (k : Keep [y] H H') (hy : H y = some (.ins C d fs)) : WayV H' u wv := by
  rcases h with h | ⟨wd, W, as, h1, h2, h3, h4⟩
  · exact .inl h
  · refine .inr ⟨wd, W, as, h1, k _ _ h2 fun e => ?_, h3, h4.mono fun a d _ h => k _ _ h fun e => ?_⟩
    · rw [List.mem_singleton.mp e, hy] at h2; cases h2
    · have h : H a = _ := h
      rw [List.mem_singleton.mp e, hy] at h; cases h
/-- the line of calls -/
structure LineAt (c : Cs) (H : Hp) (x : Addr) (h : House) : Prop where
  ex : ∃ dx ux l B wv, H x = some (.ins c.L dx (lF ux wv)) ∧ UnfAt c l H ux h.g h.m h.u B ∧ UnfOk h.g h.m h.u B ∧ WayV H h.u wv
  fit : NetFit h.g h.m
  unf : h.g.unfolded h.m = some h.u
theorem LineAt.same {c : Cs} {H H' : Hp} {x : Addr} {h : House} (l : LineAt c H x h) (s : Same H H') : LineAt c H' x h := by
  obtain ⟨dx, ux, la, B, wv, h1, h2, h3, h4⟩ := l.ex
  exact ⟨⟨dx, ux, la, B, wv, s _ _ h1, h2.same s, h3, h4.same s⟩, l.fit, l.unf⟩
/-- what is answered -/
abbrev IntsAt (H : Hp) (p : Addr) (l : List Int) : Prop := H p = some (.lst (l.map V.int))
def spTell (c : Cs) (f : House → List Int) : Sp := fun vs H Q _ => ∃ (x : Addr) (h : House), vs = [.ref x] ∧ LineAt c H x h ∧ ∀ (H' : Hp) (p : Addr), Same H H' → H p = none → IntsAt H' p (f h) → Q (.ref p) H'
def evRow (e : Sq63.Event) : List Nat := [e.t, if e.cut = true then 1 else 0, e.used.length] ++ e.used
theorem used_len {g : Net} {m0 : Places} {u : Unfolding} (N : NetFit g m0) (A : Nu.Good g m0 u) {e : Nat} {x : Sq63.Event} (h : u.events[e]? = some x) : x.used.length ≤ 9 := by
  obtain ⟨t, ht, hp⟩ := (A.ev e x h).tr
  have := (puts_len N (List.mem_of_getElem? ht)).1
  rw [← hp, List.length_map] at this
  exact this
theorem evRow_len {g : Net} {m0 : Places} {u : Unfolding} (N : NetFit g m0) (A : Nu.Good g m0 u) : ∀ i, ((u.events.take i).flatMap evRow).length ≤ 12 * i := by
  intro i
  induction i with
  | zero => simp
  | succ i ih =>
    cases h : u.events[i]? with
    | none =>
      have : u.events.length ≤ i := List.getElem?_eq_none_iff.mp h
      rw [List.take_of_length_le (by omega)]
      rw [List.take_of_length_le (by omega)] at ih
      omega
    | some x =>
      rw [take1 h, List.flatMap_append, List.length_append, List.flatMap_singleton]
      have := used_len N A h
      have : (evRow x).length = 3 + x.used.length := by unfold evRow; simp; omega
      omega
def evAns (h : House) : List Int := (h.u.events.length : Int) :: Sq63.ints (h.u.events.flatMap evRow)
theorem evAns_step (h : House) : evAns h = (h.step .events).2.value :: (h.step .events).2.out := rfl
abbrev sTev : Stmt := inClass (top 45) 2
abbrev nTev : List Str := ["self", "told", "event"]
theorem scTev : FnScope nTev ["self"] (defScope sTev) := ⟨rfl, rfl, rfl, by decide +kernel, rfl, by decide +kernel, by decide +kernel⟩
theorem ok_tev {c : Cs} {f : Addr} {fd : FuncData} (F : Fun K "tell_events" "Line.tell_events" sTev f fd) (TL : ClsT K mg "Line" c.L lN) (TU : ClsT K mg "Unfolding" c.U uN) (TE : ClsT K mg "Event" c.E evN) (gLen : mg "len" = none) : FnOk P w K mg base CX0 1 f fd ["self"] (spTell c evAns) := by
  refine F.ok scTev (fun vs H Q E h => ?_) (fun cdv A outer s H vs Q E hr h => ?_)
  · obtain ⟨x, h, rfl, _⟩ := h
    rfl
  · obtain ⟨x, h, rfl, ⟨⟨dx, ux, l, B, wv, hx, U, O, _⟩, N, _⟩, q⟩ := h
    refine ⟨_, pss_cons (ps_set (i := 1) scTev.nd rfl (Or.inl rfl) (pe_lst (pa_cons (pe_callB call_len_seq (by rfl) gLen PySem.boot_len (pa_cons (pe_fld (pe_fld (pv 0) rfl) rfl) pa_nil)) pa_nil)))
      (pss_cons (ps_for PassesOwn.never rfl (pi_list (pe_fld (pe_fld (pv 0) rfl) rfl)) (pg_name (i := 2) scTev.nd rfl (Or.inl rfl))
        (pss_cons (ps_expr (pe_bm PySem.F.plainAttrs_list PySem.F.slot_list_extend PySem.F.type_list_extend mt_extend (pv 1) (pa_cons (pe_lst (pa_cons (pe_fld (pv 2) rfl) (pa_cons (pe_ifExp (pt_val (pe_fld (pv 2) rfl)) pe_int pe_int) (pa_cons (pe_callB call_len_seq (by rfl) gLen PySem.boot_len (pa_cons (pe_fld (pv 2) rfl) pa_nil)) pa_nil)))) pa_nil)))
        (pss_one (ps_expr (pe_bm PySem.F.plainAttrs_list PySem.F.slot_list_extend PySem.F.type_list_extend NuR.mt_extT (pv 1) (pa_cons (pe_fld (pv 2) rfl) pa_nil))))))
      (pss_one (ps_ret (pv 1)))), ?_⟩
    have fU : ∀ k i v, uN.findIdx? (· == k) = some i → (uF l)[i]?.map (·.2) = some v → Has (uF l) k v := fun k i v h1 h2 => look (ns := uN) i rfl h1 h2
    have gu := (wo_at U.ux).1
    refine ⟨_, rfl, x, c.L, dx, _, _, rfl, hx, TL.cl, TL.no _ (by decide +kernel), look (ns := lN) 0 rfl (by decide +kernel) rfl, ux, c.U, l.dx, uF l, _, rfl, gu, TU.cl, TU.no _ (by decide +kernel), fU "events" 1 _ (by decide +kernel) rfl, l.evs, _, rfl, .inl (SqL.of U.ue), by show 1 ≤ sizeLine; decide, fun T nT => ?_⟩
    rw [List.length_map, U.uE.len, evD_len]
    have sT : Same H (upd H T (.lst [natV h.u.events.length])) := snew (Same.refl _) nT
    have e40 := O.e40
    refine ⟨_, rfl, x, c.L, dx, _, _, rfl, sT _ _ hx, TL.cl, TL.no _ (by decide +kernel), look (ns := lN) 0 rfl (by decide +kernel) rfl, ux, c.U, l.dx, uF l, _, rfl, sT _ _ gu, TU.cl, TU.no _ (by decide +kernel), fU "events" 1 _ (by decide +kernel) rfl, l.evs, rfl, ⟨_, SqL.of (sT _ _ U.ue)⟩, ?_⟩
    refine for_list (K := K) (a := l.evs) (xs := l.es.map V.ref) (fun i σ H' => Same H H' ∧ (∃ v, σ = [some (.ref x), some (.ref T), v]) ∧ H' T = some (.lst (natV h.u.events.length :: nats ((h.u.events.take i).flatMap evRow)))) ⟨sT, ⟨_, rfl⟩, upd_same⟩ (fun i σ H' _ h => SqL.of (h.1 _ _ U.ue)) ?_ ?_
    · rintro i y σ H1 hi ⟨s1, ⟨v, rfl⟩, gT⟩
      obtain ⟨ea, hea, rfl⟩ := refs_get hi
      obtain ⟨d, hd, hE⟩ := U.uE.get' hea
      obtain ⟨de, us, md, nd, mk, g1, g2, g3, g4, g5⟩ := hE.same wo_same
      rw [evD_get] at hd
      obtain ⟨ev, hev, rfl⟩ := Option.map_eq_some_iff.mp hd
      have hl := evRow_len N O.good i
      have hul := used_len N O.good hev
      have hil := (List.getElem?_eq_some_iff.mp hev).1
      refine ⟨_, rfl, .inl ⟨rfl, _, SqL.of gT⟩, _, rfl, ea, c.E, de, _, _, rfl, s1 _ _ g1, TE.cl, TE.no _ (by decide +kernel), look (ns := evN) 0 rfl (by decide +kernel) rfl, _, rfl, ea, c.E, de, _, _, rfl, s1 _ _ g1, TE.cl, TE.no _ (by decide +kernel), look (ns := evN) 5 rfl (by decide +kernel) rfl, _, rfl, ?_⟩
      have fin : ∀ k : Nat, k = (if ev.cut = true then 1 else 0) → ∀ p2, H1 p2 = none → Same H (upd (upd (upd H1 p2 (.lst [natV ev.t, natV k, natV ev.used.length])) T (.lst ((natV h.u.events.length :: nats ((h.u.events.take i).flatMap evRow)) ++ [natV ev.t, natV k, natV ev.used.length]))) T (.lst (((natV h.u.events.length :: nats ((h.u.events.take i).flatMap evRow)) ++ [natV ev.t, natV k, natV ev.used.length]) ++ nats ev.used))) ∧ upd (upd (upd H1 p2 (.lst [natV ev.t, natV k, natV ev.used.length])) T (.lst ((natV h.u.events.length :: nats ((h.u.events.take i).flatMap evRow)) ++ [natV ev.t, natV k, natV ev.used.length]))) T (.lst (((natV h.u.events.length :: nats ((h.u.events.take i).flatMap evRow)) ++ [natV ev.t, natV k, natV ev.used.length]) ++ nats ev.used)) T = some (.lst (natV h.u.events.length :: nats ((h.u.events.take (i + 1)).flatMap evRow))) := by
        intro k hk p2 n2
        refine ⟨Same.upd' (Same.upd' (snew s1 n2) nT) nT, ?_⟩
        rw [upd_same, take1 hev, List.flatMap_append, List.flatMap_singleton, nats_app]
        unfold evRow
        rw [← hk, nats_app]
        simp [nats]
      have len : ∀ k : Nat, ((natV h.u.events.length :: nats ((h.u.events.take i).flatMap evRow)) ++ [natV ev.t, natV k, natV ev.used.length]).length + (nats ev.used).length ≤ 1000 := fun k => by
        rw [List.length_append, List.length_cons, nats_len, nats_len]
        show _ + 1 + 3 + _ ≤ _
        omega
      have len1 : ((natV h.u.events.length :: nats ((h.u.events.take i).flatMap evRow))).length + 3 ≤ 1000 := by
        rw [List.length_cons, nats_len]
        omega
      have tus : ∀ {H2 : Hp}, Same H H2 → ∀ o, SqT K (upd H2 T o) us (nats ev.used) := fun s2 o => SqT.of ((upd_ne fun e => by
        rw [e] at g2
        rw [show H T = _ from g2] at nT
        cases nT).trans (s2 _ _ g2))
      cases hc : ev.cut with
      | true =>
        refine iteT ⟨_, rfl, ea, c.E, de, _, _, rfl, s1 _ _ g1, TE.cl, TE.no _ (by decide +kernel), look (ns := evN) 1 rfl (by decide +kernel) rfl, us, _, rfl, .inr (SqT.of (s1 _ _ g2)), by show 3 ≤ sizeLine; decide, fun p2 n2 => ?_⟩
        rw [nats_len]
        refine ⟨T, p2, _, _, rfl, rfl, (snew (Same.refl _) n2) _ _ gT, upd_same, sz400 len1, ?_⟩
        have sE : ∀ o, Same H (upd (upd H1 p2 (.lst [natV ev.t, natV 1, natV ev.used.length])) T o) := fun o => Same.upd' (snew s1 n2) nT
        refine ⟨_, rfl, .inl ⟨rfl, _, SqL.of upd_same⟩, _, rfl, ea, c.E, de, _, _, rfl, sE _ _ _ g1, TE.cl, TE.no _ (by decide +kernel), look (ns := evN) 1 rfl (by decide +kernel) rfl, T, us, _, _, rfl, rfl, upd_same, tus (snew s1 n2) _, sz400 (len 1), ?_⟩
        obtain ⟨f1, f2⟩ := fin 1 (by rw [hc]; rfl) p2 n2
        exact ⟨f1, ⟨_, rfl⟩, f2⟩
      | false =>
        refine iteF ⟨_, rfl, ea, c.E, de, _, _, rfl, s1 _ _ g1, TE.cl, TE.no _ (by decide +kernel), look (ns := evN) 1 rfl (by decide +kernel) rfl, us, _, rfl, .inr (SqT.of (s1 _ _ g2)), by show 3 ≤ sizeLine; decide, fun p2 n2 => ?_⟩
        rw [nats_len]
        refine ⟨T, p2, _, _, rfl, rfl, (snew (Same.refl _) n2) _ _ gT, upd_same, sz400 len1, ?_⟩
        have sE : ∀ o, Same H (upd (upd H1 p2 (.lst [natV ev.t, natV 0, natV ev.used.length])) T o) := fun o => Same.upd' (snew s1 n2) nT
        refine ⟨_, rfl, .inl ⟨rfl, _, SqL.of upd_same⟩, _, rfl, ea, c.E, de, _, _, rfl, sE _ _ _ g1, TE.cl, TE.no _ (by decide +kernel), look (ns := evN) 1 rfl (by decide +kernel) rfl, T, us, _, _, rfl, rfl, upd_same, tus (snew s1 n2) _, sz400 (len 0), ?_⟩
        obtain ⟨f1, f2⟩ := fin 0 (by rw [hc]; rfl) p2 n2
        exact ⟨f1, ⟨_, rfl⟩, f2⟩
    · rintro σ H1 ⟨s1, ⟨v, rfl⟩, gT⟩
      rw [List.length_map, U.uE.len, evD_len, List.take_length] at gT
      refine ⟨_, rfl, q H1 T s1 nT ?_⟩
      show H1 T = _
      rw [gT]
      unfold evAns Sq63.ints
      rw [List.map_cons, nats_ints]
end NuP
end
/-! # NuP21 -/
section
set_option Elab.async false
set_option maxRecDepth 100000
set_option maxHeartbeats 4000000
set_option linter.all false
namespace NuP
open PySem PySem.Spec PyProof.Rows L2
open Sq63 (Net Places Transition Unfolding House)
variable {P : Program} {w : World} {K : PySem.W.Frag} {mg : Str → Option Value} {base : Heap}
/-! ### tell_conditions -/
def cdRow (c : Sq63.Cond) : List Int := [(c.place : Int), mkI c.by_]
def cdAns (h : House) : List Int := (h.u.conds.length : Int) :: h.u.conds.flatMap cdRow
theorem cdAns_step (h : House) : cdAns h = (h.step .conds).2.value :: (h.step .conds).2.out := by
  show _ :: _ = _ :: _
  refine congrArg (_ :: ·) ?_
  refine flatMap_congr' fun c _ => ?_
  unfold cdRow mkI
  cases c.by_ <;> rfl
theorem cdRow_len (l : List Sq63.Cond) : (l.flatMap cdRow).length = 2 * l.length := by
  induction l with
  | nil => rfl
  | cons a l ih => rw [List.flatMap_cons, List.length_append, ih, List.length_cons]; show 2 + _ = _; omega
abbrev sTcd : Stmt := inClass (top 45) 3
abbrev nTcd : List Str := ["self", "told", "condition"]
theorem scTcd : FnScope nTcd ["self"] (defScope sTcd) := ⟨rfl, rfl, rfl, by decide +kernel, rfl, by decide +kernel, by decide +kernel⟩
theorem ok_tcd {c : Cs} {f : Addr} {fd : FuncData} (F : Fun K "tell_conditions" "Line.tell_conditions" sTcd f fd) (TL : ClsT K mg "Line" c.L lN) (TU : ClsT K mg "Unfolding" c.U uN) (TC : ClsT K mg "Condition" c.C ["place", "maker"]) (gLen : mg "len" = none) : FnOk P w K mg base CX0 1 f fd ["self"] (spTell c cdAns) := by
  refine F.ok scTcd (fun vs H Q E h => ?_) (fun cdv A outer s H vs Q E hr h => ?_)
  · obtain ⟨x, h, rfl, _⟩ := h
    rfl
  · obtain ⟨x, h, rfl, ⟨⟨dx, ux, l, B, wv, hx, U, O, _⟩, N, _⟩, q⟩ := h
    refine ⟨_, pss_cons (ps_set (i := 1) scTcd.nd rfl (Or.inl rfl) (pe_lst (pa_cons (pe_callB call_len_seq (by rfl) gLen PySem.boot_len (pa_cons (pe_fld (pe_fld (pv 0) rfl) rfl) pa_nil)) pa_nil)))
      (pss_cons (ps_for PassesOwn.never rfl (pi_list (pe_fld (pe_fld (pv 0) rfl) rfl)) (pg_name (i := 2) scTcd.nd rfl (Or.inl rfl))
        (pss_one (ps_expr (pe_bm PySem.F.plainAttrs_list PySem.F.slot_list_extend PySem.F.type_list_extend mt_extend (pv 1) (pa_cons (pe_lst (pa_cons (pe_fld (pv 2) rfl) (pa_cons (pe_fld (pv 2) rfl) pa_nil))) pa_nil)))))
      (pss_one (ps_ret (pv 1)))), ?_⟩
    have fU : ∀ k i v, uN.findIdx? (· == k) = some i → (uF l)[i]?.map (·.2) = some v → Has (uF l) k v := fun k i v h1 h2 => look (ns := uN) i rfl h1 h2
    have gu := (wo_at U.ux).1
    refine ⟨_, rfl, x, c.L, dx, _, _, rfl, hx, TL.cl, TL.no _ (by decide +kernel), look (ns := lN) 0 rfl (by decide +kernel) rfl, ux, c.U, l.dx, uF l, _, rfl, gu, TU.cl, TU.no _ (by decide +kernel), fU "conditions" 2 _ (by decide +kernel) rfl, l.cds, _, rfl, .inl (SqL.of U.uc), by show 1 ≤ sizeLine; decide, fun T nT => ?_⟩
    rw [List.length_map, U.uC.len, cdD_len]
    have sT : Same H (upd H T (.lst [natV h.u.conds.length])) := snew (Same.refl _) nT
    have e40 := O.e40
    have csz := O.csz
    refine ⟨_, rfl, x, c.L, dx, _, _, rfl, sT _ _ hx, TL.cl, TL.no _ (by decide +kernel), look (ns := lN) 0 rfl (by decide +kernel) rfl, ux, c.U, l.dx, uF l, _, rfl, sT _ _ gu, TU.cl, TU.no _ (by decide +kernel), fU "conditions" 2 _ (by decide +kernel) rfl, l.cds, rfl, ⟨_, SqL.of (sT _ _ U.uc)⟩, ?_⟩
    refine for_list (K := K) (a := l.cds) (xs := l.cs.map V.ref) (fun i σ H' => Same H H' ∧ (∃ v, σ = [some (.ref x), some (.ref T), v]) ∧ H' T = some (.lst (natV h.u.conds.length :: ((h.u.conds.take i).flatMap cdRow).map V.int))) ⟨sT, ⟨_, rfl⟩, upd_same⟩ (fun i σ H' _ h => SqL.of (h.1 _ _ U.uc)) ?_ ?_
    · rintro i y σ H1 hi ⟨s1, ⟨v, rfl⟩, gT⟩
      obtain ⟨ca, hca, rfl⟩ := refs_get hi
      obtain ⟨d, hd, hC⟩ := U.uC.get' hca
      obtain ⟨dc, g1⟩ := CdAt.same hC wo_same
      rw [cdD_get] at hd
      obtain ⟨cc, hcc, rfl⟩ := Option.map_eq_some_iff.mp hd
      have hil := (List.getElem?_eq_some_iff.mp hcc).1
      refine ⟨_, rfl, .inl ⟨rfl, _, SqL.of gT⟩, _, rfl, ca, c.C, dc, _, _, rfl, s1 _ _ g1, TC.cl, TC.no _ (by decide +kernel), look (ns := ["place", "maker"]) 0 rfl (by decide +kernel) rfl, _, rfl, ca, c.C, dc, _, _, rfl, s1 _ _ g1, TC.cl, TC.no _ (by decide +kernel), look (ns := ["place", "maker"]) 1 rfl (by decide +kernel) rfl, by show 2 ≤ sizeLine; decide, fun p2 n2 => ?_⟩
      refine ⟨T, p2, _, _, rfl, rfl, (snew (Same.refl _) n2) _ _ gT, upd_same, ?_, ?_⟩
      · rw [List.length_cons, List.length_map, cdRow_len, List.length_take]
        show _ + 1 + 2 ≤ _
        exact sz400 (by omega)
      · refine ⟨Same.upd' (snew s1 n2) nT, ⟨_, rfl⟩, ?_⟩
        rw [upd_same, take1 hcc, List.flatMap_append, List.flatMap_singleton, List.map_append]
        rfl
    · rintro σ H1 ⟨s1, ⟨v, rfl⟩, gT⟩
      rw [List.length_map, U.uC.len, cdD_len, List.take_length] at gT
      exact ⟨_, rfl, q H1 T s1 nT gT⟩
/-! ### tell_event -/
def oneAns (h : House) (e : Nat) : List Int := (h.step (.event e)).2.value :: (h.step (.event e)).2.out
theorem oneAns_none {h : House} {e : Nat} (he : h.u.events[e]? = none) : oneAns h e = [-2] := by
  unfold oneAns
  simp only [Sq63.House.step, he]
  rfl
theorem oneAns_some {h : House} {e : Nat} {x : Sq63.Event} (he : h.u.events[e]? = some x) : oneAns h e = (x.needs.length : Int) :: Sq63.ints (x.needs ++ Sq63.markingOf h.u x.needs) := by
  unfold oneAns
  simp only [Sq63.House.step, he]
def spOne (c : Cs) : Sp := fun vs H Q _ => ∃ (x : Addr) (h : House) (e : Nat), vs = [.ref x, natV e] ∧ LineAt c H x h ∧ ∀ (H' : Hp) (p : Addr), Same H H' → H p = none → IntsAt H' p (oneAns h e) → Q (.ref p) H'
abbrev sOne : Stmt := inClass (top 45) 4
abbrev nOne : List Str := ["self", "number", "event"]
theorem scOne : FnScope nOne ["self", "number"] (defScope sOne) := ⟨rfl, rfl, rfl, by decide +kernel, rfl, by decide +kernel, by decide +kernel⟩
theorem mark_len {g : Net} {m0 : Places} {u : Unfolding} (N : NetFit g m0) (A : Nu.Good g m0 u) {e : Nat} {x : Sq63.Event} (h : u.events[e]? = some x) : (Sq63.markingOf u x.needs).length ≤ 9 := by
  have C := Nu.local_cfg A (List.getElem?_eq_some_iff.mp h).1
  rw [Nu.needsE_some h] at C
  have R := (Nu.cfg_all A N.ok N.safe _ _ rfl C).2
  have := places_len (reach_ok N.m0k (fun t ht => (N.tsk t ht).2.1) R)
  have := N.n9
  omega
theorem ok_one {c : Cs} {f : Addr} {fd : FuncData} {tk : Tok} (F : Fun K "tell_event" "Line.tell_event" sOne f fd) (TL : ClsT K mg "Line" c.L lN) (TU : ClsT K mg "Unfolding" c.U uN) (TE : ClsT K mg "Event" c.E evN) (gLen : mg "len" = none) (gList : mg "list" = none) (gN : mg "NOT_THERE" = some (.int (-2) tk)) : FnOk P w K mg base CX0 1 f fd ["self", "number"] (spOne c) := by
  refine F.ok scOne (fun vs H Q E h => ?_) (fun cdv A outer s H vs Q E hr h => ?_)
  · obtain ⟨x, h, e, rfl, _⟩ := h
    rfl
  · obtain ⟨x, h, e, rfl, ⟨⟨dx, ux, l, B, wv, hx, U, O, _⟩, N, _⟩, q⟩ := h
    refine ⟨_, pss_cons (ps_if (pt_cmpR op_ge (pv 1) (pe_callB call_len_seq (by rfl) gLen PySem.boot_len (pa_cons (pe_fld (pe_fld (pv 0) rfl) rfl) pa_nil)) (nomark _)) (pss_one (ps_ret (pe_lst (pa_cons (pe_glob (v := .int (-2)) rfl gN ⟨_, rfl⟩) pa_nil)))) pss_nil)
      (pss_cons (ps_set (i := 2) scOne.nd rfl (Or.inl rfl) (pe_ix ix_list (pe_fld (pe_fld (pv 0) rfl) rfl) (pv 1) (fun _ _ => rfl)))
      (pss_one (ps_ret (pe_op op_cat (pe_op op_cat (pe_lst (pa_cons (pe_callB call_len_seq (by rfl) gLen PySem.boot_len (pa_cons (pe_fld (pv 2) rfl) pa_nil)) pa_nil)) (pe_fld (pv 2) rfl)) (pe_callTy call_list_of (by rfl) gList (by decide +kernel) (pa_cons (pe_fld (pv 2) rfl) pa_nil)))))), ?_⟩
    have fU : ∀ k i v, uN.findIdx? (· == k) = some i → (uF l)[i]?.map (·.2) = some v → Has (uF l) k v := fun k i v h1 h2 => look (ns := uN) i rfl h1 h2
    have gu := (wo_at U.ux).1
    refine ⟨_, rfl, _, rfl, x, c.L, dx, _, _, rfl, hx, TL.cl, TL.no _ (by decide +kernel), look (ns := lN) 0 rfl (by decide +kernel) rfl, ux, c.U, l.dx, uF l, _, rfl, gu, TU.cl, TU.no _ (by decide +kernel), fU "events" 1 _ (by decide +kernel) rfl, l.evs, _, rfl, .inl (SqL.of U.ue), _, _, rfl, rfl, _, rfl, ?_⟩
    rw [List.length_map, U.uE.len, evD_len]
    refine ite2 (fun c' => ?_) (fun c' => ?_)
    · have hle : h.u.events.length ≤ e := by have := of_decide_eq_true c'; omega
      refine ⟨by show 1 ≤ sizeLine; decide, fun p np => q _ p (snew (Same.refl _) np) np ?_⟩
      show upd H p _ p = _
      rw [upd_same, oneAns_none (List.getElem?_eq_none hle)]
      rfl
    · have hlt : e < h.u.events.length := by
        apply Classical.byContradiction
        intro h2
        exact c' (decide_eq_true (by omega))
      have hev := List.getElem?_eq_getElem hlt
      generalize h.u.events[e] = ev at hev
      have hevD : (evD h.u)[e]? = some ⟨ev.t, ev.used, Nu.madeOf h.u e, ev.needs, Sq63.markingOf h.u ev.needs, ev.cut⟩ := by rw [evD_get, hev]; rfl
      obtain ⟨ea, hea, hE⟩ := U.uE.get hevD
      obtain ⟨de, us, md, nd, mk, g1, g2, g3, g4, g5⟩ := hE.same wo_same
      have en : ev.needs.length ≤ _ := evD_needs O.good _ (List.mem_of_getElem? hevD)
      have ml := mark_len N O.good hev
      have e40 := O.e40
      refine ⟨_, rfl, x, c.L, dx, _, _, rfl, hx, TL.cl, TL.no _ (by decide +kernel), look (ns := lN) 0 rfl (by decide +kernel) rfl, ux, c.U, l.dx, uF l, _, rfl, gu, TU.cl, TU.no _ (by decide +kernel), fU "events" 1 _ (by decide +kernel) rfl, _, rfl, l.evs, _, _, V.ref ea, rfl, rfl, SqL.of U.ue, atI_nat (by rw [List.getElem?_map, hea]; rfl), ?_⟩
      refine ⟨_, rfl, ea, c.E, de, _, _, rfl, g1, TE.cl, TE.no _ (by decide +kernel), look (ns := evN) 3 rfl (by decide +kernel) rfl, nd, _, rfl, .inl (SqL.of g4), by show 1 ≤ sizeLine; decide, fun p1 n1 => ?_⟩
      have s1 : ∀ o, Same H (upd H p1 o) := fun o => snew (Same.refl _) n1
      refine ⟨_, rfl, ea, c.E, de, _, _, rfl, s1 _ _ _ g1, TE.cl, TE.no _ (by decide +kernel), look (ns := evN) 3 rfl (by decide +kernel) rfl, p1, nd, _, _, rfl, rfl, upd_same, s1 _ _ _ g4, ?_, fun p2 n2 => ?_⟩
      · rw [nats_len]
        show 1 + ev.needs.length ≤ _
        exact sz400 (by omega)
      · have s2 : ∀ o, Same H (upd (upd H p1 (.lst [.int ((nats ev.needs).length)])) p2 o) := fun o => snew (s1 _) n2
        refine ⟨_, rfl, ea, c.E, de, _, _, rfl, s2 _ _ _ g1, TE.cl, TE.no _ (by decide +kernel), look (ns := evN) 4 rfl (by decide +kernel) rfl, mk, _, rfl, .inr (SqT.of (s2 _ _ _ g5)), fun p3 n3 => ?_⟩
        refine ⟨p2, p3, _, _, rfl, rfl, (snew (Same.refl _) n3) _ _ upd_same, upd_same, ?_, fun p4 n4 => ?_⟩
        · rw [List.length_append, nats_len, nats_len]
          show 1 + ev.needs.length + (Sq63.markingOf h.u ev.needs).length ≤ _
          exact sz400 (by omega)
        · refine q _ p4 (snew (snew (s2 _) n3) n4) ((snew (s2 _) n3).free n4) ?_
          show upd _ p4 _ p4 = _
          rw [upd_same, oneAns_some hev]
          unfold Sq63.ints
          rw [List.map_cons, ← nats_ints, nats_app, nats_len]
          rfl
end NuP
end
/-! # NuP22 -/
section
set_option Elab.async false
set_option maxRecDepth 100000
set_option maxHeartbeats 4000000
set_option linter.all false
namespace NuP
open PySem PySem.Spec PyProof.Rows L2
open Sq63 (Net Places Transition Unfolding House)
/-! ### begin, as the specification tells it -/
section
variable {h : House} {n : Nat} {l m : List Nat} {ts : List Transition}
theorem allowed_no (ha : allowed ts = false) : Sq63.TRANSITIONS < ts.length ∨ (ts.any fun t => t.takes.isEmpty) = true := by
  unfold allowed at ha
  rw [Bool.and_eq_false_iff] at ha
  rcases ha with ha | ha
  · left
    have := of_decide_eq_false ha
    show 8 < _
    omega
  · right
    rw [List.all_eq_false] at ha
    obtain ⟨t, ht, hq⟩ := ha
    refine List.any_eq_true.mpr ⟨t, ht, ?_⟩
    cases q : t.takes with
    | nil => rfl
    | cons a r => rw [q] at hq; simp at hq
theorem allowed_yes (ha : allowed ts = true) : ¬ (Sq63.TRANSITIONS < ts.length ∨ (ts.any fun t => t.takes.isEmpty) = true) := by
  unfold allowed at ha
  rw [Bool.and_eq_true] at ha
  obtain ⟨h1, h2⟩ := ha
  have h1 := of_decide_eq_true h1
  rintro (q | q)
  · have q : 8 < ts.length := q
    omega
  · obtain ⟨t, ht, hq⟩ := List.any_eq_true.mp q
    have := of_decide_eq_true (List.all_eq_true.mp h2 t ht)
    cases e : t.takes with
    | nil => rw [e] at this; simp at this
    | cons a r => rw [e] at hq; simp at hq
theorem beg1 (c : n = 0 ∨ 9 < n) : h.step (.begin_ n l m) = (h, Sq63.says (-1)) := if_pos c
theorem beg2 (c : ¬ (n = 0 ∨ 9 < n)) (ht : transW n l = none) : h.step (.begin_ n l m) = (h, Sq63.says (-3)) := by
  refine (if_neg c).trans ?_
  rw [trans_spec n _ l (Nat.le_refl _), ht]
theorem beg3 (c : ¬ (n = 0 ∨ 9 < n)) (ht : transW n l = some ts) (hm : Sq63.placesOk n m = false) : h.step (.begin_ n l m) = (h, Sq63.says (-3)) := by
  refine (if_neg c).trans ?_
  rw [trans_spec n _ l (Nat.le_refl _), ht]
  exact if_pos hm
theorem beg4 (c : ¬ (n = 0 ∨ 9 < n)) (ht : transW n l = some ts) (hm : Sq63.placesOk n m = true) (ha : allowed ts = false) : h.step (.begin_ n l m) = (h, Sq63.says (-1)) := by
  refine (if_neg c).trans ?_
  rw [trans_spec n _ l (Nat.le_refl _), ht]
  exact (if_neg (by rw [hm]; simp)).trans (if_pos (allowed_no ha))
theorem beg5 (c : ¬ (n = 0 ∨ 9 < n)) (ht : transW n l = some ts) (hm : Sq63.placesOk n m = true) (ha : allowed ts = true) (hr : (Net.reach ⟨n, ts⟩ m) = none) : h.step (.begin_ n l m) = (h, Sq63.says (-4)) := by
  refine (if_neg c).trans ?_
  rw [trans_spec n _ l (Nat.le_refl _), ht]
  refine (if_neg (by rw [hm]; simp)).trans ((if_neg (allowed_yes ha)).trans ?_)
  simp only [hr]
theorem beg6 (c : ¬ (n = 0 ∨ 9 < n)) (ht : transW n l = some ts) (hm : Sq63.placesOk n m = true) (ha : allowed ts = true) {r : List Places} (hr : (Net.reach ⟨n, ts⟩ m) = some r) (hu : Net.unfolded ⟨n, ts⟩ m = none) : h.step (.begin_ n l m) = (h, Sq63.says (-5)) := by
  refine (if_neg c).trans ?_
  rw [trans_spec n _ l (Nat.le_refl _), ht]
  refine (if_neg (by rw [hm]; simp)).trans ((if_neg (allowed_yes ha)).trans ?_)
  simp only [hr, hu]
theorem beg7 (c : ¬ (n = 0 ∨ 9 < n)) (ht : transW n l = some ts) (hm : Sq63.placesOk n m = true) (ha : allowed ts = true) {r : List Places} (hr : (Net.reach ⟨n, ts⟩ m) = some r) {u : Unfolding} (hu : Net.unfolded ⟨n, ts⟩ m = some u) : h.step (.begin_ n l m) = (⟨⟨n, ts⟩, m, u⟩, ⟨u.events.length, Sq63.ints [u.conds.length, (u.events.filter fun e => e.cut).length]⟩) := by
  refine (if_neg c).trans ?_
  rw [trans_spec n _ l (Nat.le_refl _), ht]
  refine (if_neg (by rw [hm]; simp)).trans ((if_neg (allowed_yes ha)).trans ?_)
  simp only [hr, hu]
end
section
variable {P : Program} {w : World} {K : PySem.W.Frag} {mg : Str → Option Value} {base : Heap}
theorem UnfAt.keepX {c : Cs} {l : Lay} {H H' : Hp} {x y C dx : Addr} {fs : List (Str × V)} {g : Net} {m0 : Places} {u : Unfolding} {B : List Nat} (U : UnfAt c l H x g m0 u B) (k : Keep [y] H H') (hy : H y = some (.ins C dx fs)) (h1 : (fs.map (·.1)) ∉ [uN, ["places", "transitions", "marking"], ["takes", "puts"], evN, ["place", "maker"]]) : UnfAt c l H' x g m0 u B := by
  have L : ∀ {a : Addr} {xs : List V}, H a = some (.lst xs) → H' a = some (.lst xs) := fun {a xs} h => k _ _ h fun e => by rw [List.mem_singleton.mp e, hy] at h; cases h
  have T : ∀ {a : Addr} {xs : List V}, H a = some (.tup xs) → H' a = some (.tup xs) := fun {a xs} h => k _ _ h fun e => by rw [List.mem_singleton.mp e, hy] at h; cases h
  have I : ∀ {a C d : Addr} {gs : List (Str × V)}, H a = some (.ins C d gs) → gs.map (·.1) ∈ [uN, ["places", "transitions", "marking"], ["takes", "puts"], evN, ["place", "maker"]] → H' a = some (.ins C d gs) := fun {a C d gs} h n => k _ _ h fun e => by
    rw [List.mem_singleton.mp e, hy] at h
    cases h
    exact h1 n
  have L' : ∀ {a : Addr} {xs : List V}, wo l.M H a = some (.lst xs) → wo l.M H' a = some (.lst xs) := fun h => wo_mk (L (wo_at h).1) (wo_at h).2
  have T' : ∀ {a : Addr} {xs : List V}, wo l.M H a = some (.tup xs) → wo l.M H' a = some (.tup xs) := fun h => wo_mk (T (wo_at h).1) (wo_at h).2
  have I' : ∀ {a C d : Addr} {gs : List (Str × V)}, wo l.M H a = some (.ins C d gs) → gs.map (·.1) ∈ [uN, ["places", "transitions", "marking"], ["takes", "puts"], evN, ["place", "maker"]] → wo l.M H' a = some (.ins C d gs) := fun h n => wo_mk (I (wo_at h).1 n) (wo_at h).2
  refine ⟨I' U.ux (by simp [uF]), I' U.un (by simp [netF]), L' U.ut, T' U.um, U.uT.mono fun a z _ h => ?_, L U.ue, L U.uc, L U.ub, L' U.uu, U.uU.mono fun a z _ h => L h, L' U.uf, U.uE.mono fun a z _ h => ?_, U.uC.mono fun a z _ h => ?_, U.nd⟩
  · obtain ⟨d, tk, pt, q1, q2, q3, q4⟩ := h.ex
    exact ⟨d, tk, pt, I' q1 (by simp [trF]), L' q2, L' q3, q4⟩
  · obtain ⟨d, us, md, nd, mk, q1, q2, q3, q4, q5⟩ := h
    exact ⟨d, us, md, nd, mk, I' q1 (by simp [evF]), T' q2, L' q3, L' q4, T' q5⟩
  · obtain ⟨d, q1⟩ := h
    exact ⟨d, I' q1 (by simp [condF])⟩
theorem transW_ok {n : Nat} {l : List Nat} {ts : List Transition} (h : transW n l = some ts) : (∀ t, t ∈ ts → Sq63.placesOk n t.takes = true ∧ Sq63.placesOk n t.puts = true) ∧ ts.length ≤ l.length := by
  unfold transW at h
  cases hR : rowsW l with
  | none => rw [hR] at h; cases h
  | some R =>
    rw [hR] at h
    simp only at h
    by_cases c : R.length % 2 = 1
    · rw [if_pos c] at h; cases h
    · rw [if_neg c] at h
      by_cases c2 : R.all (Sq63.placesOk n) = true
      · rw [if_pos c2] at h
        cases h
        refine ⟨fun t ht => pairUp_ok R c2 t ht, ?_⟩
        rw [pairUp_len]
        have := (rowsW_len R _ l rfl hR).1
        omega
      · rw [if_neg c2] at h; cases h
theorem filter_range_len {α : Type} (p : α → Bool) (l : List α) (d : α) : ((List.range l.length).filter fun j => p (l.getD j d)).length = (l.filter p).length := by
  have e : (List.range l.length).map (fun j => l.getD j d) = l := by
    rw [range_map l (fun a => a) _ (fun j a ha => by rw [List.getD_eq_getElem?_getD, ha]; rfl)]
    exact map_self l
  have h : (l.filter p).length = (((List.range l.length).map (fun j => l.getD j d)).filter p).length := by rw [e]
  rw [h, List.filter_map, List.length_map]
  rfl
def begAns (h : House) (n : Nat) (tl ml : List Nat) : List Int := (h.step (.begin_ n tl ml)).2.value :: (h.step (.begin_ n tl ml)).2.out
def spBeg (c : Cs) (K : PySem.W.Frag) : Sp := fun vs H Q _ => ∃ (x ta ma : Addr) (h : House) (n : Nat) (tl ml : List Nat), vs = [.ref x, natV n, .ref ta, .ref ma] ∧ LineAt c H x h ∧ ListAt H ta tl ∧ ListAt H ma ml ∧ tl.length ≤ 20000 ∧ ml.length ≤ 20000 ∧
  ∀ (H' : Hp) (p : Addr), Keep [x] H H' → H p = none → IntsAt H' p (begAns h n tl ml) → LineAt c H' x (h.step (.begin_ n tl ml)).1 → Q (.ref p) H'
abbrev sBeg : Stmt := inClass (top 45) 1
abbrev nBeg : List Str := ["self", "places", "transition_numbers", "marking", "transitions", "net", "unfolding", "cut_off", "event"]
theorem scBeg : FnScope nBeg ["self", "places", "transition_numbers", "marking"] (defScope sBeg) := ⟨rfl, rfl, rfl, by decide +kernel, rfl, by decide +kernel, by decide +kernel⟩
theorem ok_beg {c : Cs} {f fR fI fA fN fB fU : Addr} {fd fdR fdI fdA fdN fdB fdU : FuncData} {t1 t2 t3 t4 t5 : Tok} (F : Fun K "begin" "Line.begin" sBeg f fd) (TL : ClsT K mg "Line" c.L lN) (TU : ClsT K mg "Unfolding" c.U uN) (TE : ClsT K mg "Event" c.E evN) (TN : ClsT K mg "Net" c.N ["places", "transitions", "marking"]) (gLen : mg "len" = none) (gTup : mg "tuple" = none)
    (g9 : mg "MOST_PLACES" = some (.int 9 t1)) (gA : mg "NOT_ALLOWED" = some (.int (-1) t2)) (gS : mg "NOT_TOLD_SO" = some (.int (-3) t3)) (gO : mg "OUT_OF_BOUNDS" = some (.int (-4) t4)) (gT : mg "TOO_MANY_EVENTS" = some (.int (-5) t5))
    (GR : FnOk P w K mg base CX0 3 fR fdR ["numbers", "places"] (spRead c.T K)) (bR : Binds K fdR ["numbers", "places"] []) (gR : mg "read_transitions" = some (.ref fR)) (kR : PySem.W.keepIn K (.ref fR) = true)
    (GI : FnOk P w K mg base CX0 1 fI fdI ["numbers", "bound"] (spRis K)) (bI : Binds K fdI ["numbers", "bound"] []) (gI : mg "is_rising_below" = some (.ref fI)) (kI : PySem.W.keepIn K (.ref fI) = true)
    (GA : FnOk P w K mg base CX0 1 fA fdA ["transitions"] (spAlw c.T)) (bA : Binds K fdA ["transitions"] []) (gAl : mg "are_transitions_allowed" = some (.ref fA)) (kA : PySem.W.keepIn K (.ref fA) = true)
    (GN : FnOk P w K mg base CX0 1 fN fdN ["self", "places", "transitions", "marking"] (spNet c.N)) (bN : Binds K fdN ["self", "places", "transitions", "marking"] []) (mN : Mk K c.N fN)
    (GB : FnOk P w K mg base CX0 3 fB fdB ["net"] (spBnd c.N c.T)) (bB : Binds K fdB ["net"] []) (gB : mg "keeps_to_bounds" = some (.ref fB)) (kB : PySem.W.keepIn K (.ref fB) = true)
    (GU : FnOk P w K mg base CX0 6 fU fdU ["net"] (spUnf c)) (bU : Binds K fdU ["net"] []) (gU : mg "unfold" = some (.ref fU)) (kU : PySem.W.keepIn K (.ref fU) = true) : FnOk P w K mg base CX0 7 f fd ["self", "places", "transition_numbers", "marking"] (spBeg c K) := by
  refine F.ok scBeg (fun vs H Q E h => ?_) (fun cdv A outer s H vs Q E hr h => ?_)
  · obtain ⟨x, ta, ma, h, n, tl, ml, rfl, _⟩ := h
    rfl
  · obtain ⟨x, ta, ma, h, n, tl, ml, rfl, LA, gt, gm, htl, hml, q⟩ := h
    have hr1 : Room 1 _ := hr.mono (by decide)
    have hr2 : Room 2 _ := hr.mono (by decide)
    have hr3 : Room 3 _ := hr.mono (by decide)
    refine ⟨_, pss_cons (ps_if (pt_not (pt_chain op_le op_le pe_int (pv 1) (pe_glob (v := .int 9) rfl g9 ⟨_, rfl⟩))) (pss_one (ps_ret (pe_lst (pa_cons (pe_glob (v := .int (-1)) rfl gA ⟨_, rfl⟩) pa_nil)))) pss_nil)
      (pss_cons (ps_set (i := 4) scBeg.nd rfl (Or.inl rfl) (pe_call GR hr3 rfl gR kR bR .nil pass0 (pa_cons (pv 2) (pa_cons (pv 1) pa_nil))))
      (pss_cons (ps_if (PW.pt (pw_or (pt_cmpR op_isN (pv 4) pe_non (nomark _)) (pw_or1 (pt_not (pt_val (pe_call GI hr1 rfl gI kI bI .nil pass0 (pa_cons (pv 3) (pa_cons (pv 1) pa_nil)))))))) (pss_one (ps_ret (pe_lst (pa_cons (pe_glob (v := .int (-3)) rfl gS ⟨_, rfl⟩) pa_nil)))) pss_nil)
      (pss_cons (ps_if (pt_not (pt_val (pe_call GA hr1 rfl gAl kA bA .nil pass0 (pa_cons (pv 4) pa_nil)))) (pss_one (ps_ret (pe_lst (pa_cons (pe_glob (v := .int (-1)) rfl gA ⟨_, rfl⟩) pa_nil)))) pss_nil)
      (pss_cons (ps_set (i := 5) scBeg.nd rfl (Or.inl rfl) (pe_make mN GN hr2 rfl TN.gl bN .nil pass0 (pa_cons (pv 1) (pa_cons (pv 4) (pa_cons (pe_callTy call_tuple_of (by rfl) gTup (by decide +kernel) (pa_cons (pv 3) pa_nil)) pa_nil)))))
      (pss_cons (ps_if (pt_not (pt_val (pe_call GB hr3 rfl gB kB bB .nil pass0 (pa_cons (pv 5) pa_nil)))) (pss_one (ps_ret (pe_lst (pa_cons (pe_glob (v := .int (-4)) rfl gO ⟨_, rfl⟩) pa_nil)))) pss_nil)
      (pss_cons (ps_set (i := 6) scBeg.nd rfl (Or.inl rfl) (pe_call GU hr rfl gU kU bU .nil pass0 (pa_cons (pv 5) pa_nil)))
      (pss_cons (ps_if (pt_cmpR op_isN (pv 6) pe_non (nomark _)) (pss_one (ps_ret (pe_lst (pa_cons (pe_glob (v := .int (-5)) rfl gT ⟨_, rfl⟩) pa_nil)))) pss_nil)
      (pss_cons (ps_fld (pv 0) (pv 6) rfl)
      (pss_cons (ps_fld (pv 0) pe_non rfl)
      (pss_cons (ps_setLc (i := 7) (own := [("event", 8)]) (g := gName 8) (tt := tB (tFld K (tVar 8) "is_cut_off")) (te := tVar 8) rfl scBeg.nd rfl rfl (sw_true rfl rfl rfl (by decide +kernel)) (pi_list (pe_fld (pv 6) rfl)) (blkOk_by (own := [("event", 8)]) (N := nBeg) (sc := defScope sBeg) (by decide +kernel))
        (fun _ _ _ _ _ => pg_name (i := 8) scBeg.nd rfl (Or.inl rfl)) (fun _ _ _ _ _ => pts_one (pt_val (pe_fld (pv 8) rfl))) (fun _ _ _ _ _ => pv 8))
      (pss_one (ps_ret (pe_lst (pa_cons (pe_callB call_len_seq (by rfl) gLen PySem.boot_len (pa_cons (pe_fld (pv 6) rfl) pa_nil)) (pa_cons (pe_callB call_len_seq (by rfl) gLen PySem.boot_len (pa_cons (pe_fld (pv 6) rfl) pa_nil)) (pa_cons (pe_callB call_len_seq (by rfl) gLen PySem.boot_len (pa_cons (pv 7) pa_nil)) pa_nil)))))))))))))))), ?_⟩
    have bad : ∀ (z : Int) (H1 : Hp), Same H H1 → h.step (.begin_ n tl ml) = (h, Sq63.says z) → ∀ p, H1 p = none → Q (.ref p) (upd H1 p (.lst [.int z])) := by
      intro z H1 s1 e p np
      refine q _ p (Keep.same (snew s1 np)) (s1.free np) ?_ ?_
      · show upd H1 p _ p = _
        rw [upd_same]
        unfold begAns
        rw [e]
        rfl
      · rw [e]
        exact LA.same (snew s1 np)
    refine ⟨_, rfl, _, _, rfl, rfl, _, rfl, ?_⟩
    by_cases c0 : n = 0
    · refine ite2 (fun c' => absurd (of_decide_eq_true c') (by omega)) (fun _ => ⟨_, rfl, iteT ⟨by show 1 ≤ sizeLine; decide, fun p np => bad _ H (Same.refl _) (beg1 (Or.inl c0)) p np⟩⟩)
    refine ite2 (fun _ => ?_) (fun c' => absurd (decide_eq_true (by omega)) c')
    refine ⟨_, _, rfl, rfl, _, rfl, ?_⟩
    by_cases c9 : 9 < n
    · have e9 : decide ((n : Int) ≤ 9) = false := decide_eq_false (by omega)
      rw [e9]
      exact iteT ⟨by show 1 ≤ sizeLine; decide, fun p np => bad _ H (Same.refl _) (beg1 (Or.inr c9)) p np⟩
    have e9 : decide ((n : Int) ≤ 9) = true := decide_eq_true (by omega)
    rw [e9]
    have cn : ¬ (n = 0 ∨ 9 < n) := fun e => e.elim c0 c9
    refine iteF ⟨_, rfl, _, rfl, ta, tl, n, rfl, SqL.of gt, htl, by omega, fun hN H1 s1 => ?_, fun ts hS H1 tp as s1 ntp gtp hA => ?_⟩
    · refine ⟨_, rfl, rfl, _, rfl, ite2 (fun _ => iteT ⟨by show 1 ≤ sizeLine; decide, fun p np => bad _ H1 s1 (beg2 cn hN) p np⟩) (fun c => absurd rfl c)⟩
    refine ⟨_, rfl, rfl, _, rfl, ite2 (fun c => absurd (of_decide_eq_true c) (fun z => by cases z)) (fun _ => ?_)⟩
    refine ⟨_, rfl, _, rfl, ma, ml, n, rfl, SqL.of (s1 _ _ gm), hml, _, rfl, ?_⟩
    cases hm : Sq63.placesOk n ml with
    | false => exact iteT ⟨by show 1 ≤ sizeLine; decide, fun p np => bad _ H1 s1 (beg3 cn hS hm) p np⟩
    | true =>
      refine iteF ⟨_, rfl, tp, as, ts, rfl, gtp, hA, ?_, fun H2 s2 => ⟨_, rfl, ?_⟩⟩
      · have := (transW_ok hS).2
        omega
      have s12 := s1.trans s2
      cases ha : allowed ts with
      | false => exact iteT ⟨by show 1 ≤ sizeLine; decide, fun p np => bad _ H2 s12 (beg4 cn hS hm ha) p np⟩
      | true =>
        refine iteF ⟨_, rfl, _, rfl, _, rfl, ma, _, rfl, .inl ⟨SqL.of (s12 _ _ gm), fun mt nmt => ?_⟩⟩
        intro nx dn nnx ndn hne
        refine ⟨nx, dn, n, tp, mt, rfl, upd_same, fun H3 gnet kp => ⟨rfl, ?_⟩⟩
        have s23 : Same H2 H3 := (snew (Same.refl _) nmt).trans (Same.made nnx ndn fun b o e hb => kp b o e (by simpa using hb))
        have s3 := s12.trans s23
        have gmt : TupAt H3 mt ml := (Same.made nnx ndn fun b o e hb => kp b o e (by simpa using hb)) _ _ upd_same
        have hAl := allowed_yes ha
        have tk := transW_ok hS
        have hA3 : AllAt (TrAt c.T H3) as ts := hA.mono fun a z _ q => q.same (s2.trans s23)
        have gtp3 := s23 _ _ (s2 _ _ gtp)
        have t8 : ts.length ≤ 8 := by
          apply Classical.byContradiction
          intro e
          exact hAl (Or.inl (show 8 < ts.length by omega))
        have tsk : ∀ t, t ∈ ts → Sq63.placesOk n t.takes = true ∧ Sq63.placesOk n t.puts = true ∧ t.takes ≠ [] := fun t ht => ⟨(tk.1 t ht).1, (tk.1 t ht).2, fun e => hAl (Or.inr (List.any_eq_true.mpr ⟨t, ht, by rw [e]; rfl⟩))⟩
        have NA : NetAt c.N c.T H3 nx ⟨n, ts⟩ ml := ⟨⟨dn, tp, mt, as, gnet, gtp3, gmt, hA3⟩, (by show n ≤ 9; omega), hm, tsk, t8⟩
        refine ⟨_, rfl, nx, ⟨n, ts⟩, ml, rfl, NA, fun H4 s4 => ⟨_, rfl, ?_⟩⟩
        cases hre : Sq63.Net.reach ⟨n, ts⟩ ml with
        | none => exact iteT ⟨by show 1 ≤ sizeLine; decide, fun p np => bad _ H4 (s3.trans s4) (beg5 cn hS hm ha hre) p np⟩
        | some r =>
          have Nf : NetFit ⟨n, ts⟩ ml := ⟨(by show n ≤ 9; omega), t8, hm, tsk, (Nu.reach_iff.mp ⟨r, hre⟩).safe⟩
          have NI : NetIn c H4 nx dn tp mt as ⟨n, ts⟩ ml := ⟨s4 _ _ gnet, s4 _ _ gtp3, s4 _ _ gmt, hA3.mono fun a z _ q => q.same s4⟩
          refine iteF ⟨_, rfl, nx, dn, tp, mt, as, ⟨n, ts⟩, ml, rfl, NI, Nf, fun hN H5 s5 => ?_, fun u hu H5 ux l B s5 U O nux hM => ?_⟩
          · exact ⟨_, rfl, rfl, _, rfl, ite2 (fun _ => ⟨by show 1 ≤ sizeLine; decide, fun p np => bad _ H5 ((s3.trans s4).trans s5) (beg6 cn hS hm ha hre hN) p np⟩) (fun c => absurd rfl c)⟩
          refine ⟨_, rfl, rfl, _, rfl, ite2 (fun c => absurd (of_decide_eq_true c) (fun z => by cases z)) (fun _ => ?_)⟩
          obtain ⟨dx, ux0, l0, B0, wv0, hx, U0, O0, _⟩ := LA.ex
          have s05 := (s3.trans s4).trans s5
          have e7 := beg7 (h := h) cn hS hm ha hre hu
          refine ⟨_, rfl, _, rfl, x, c.L, dx, _, rfl, s05 _ _ hx, TL.cl, TL.no _ (by decide +kernel), (by show 2 < 1000; decide), ?_⟩
          rw [show putF "unfolding" (.ref ux) (lF ux0 wv0) = lF ux wv0 from putA (ns := lN) 0 rfl (by decide +kernel)]
          refine ⟨_, rfl, x, c.L, dx, _, rfl, upd_same, TL.cl, TL.no _ (by decide +kernel), (by show 2 < 1000; decide), ?_⟩
          rw [show putF "ways" .non (lF ux wv0) = lF ux .non from putA (ns := lN) 1 rfl (by decide +kernel)]
          have k6 : Keep [x] H5 (upd (upd H5 x (.ins c.L dx (lF ux wv0))) x (.ins c.L dx (lF ux .non))) := Keep.upd (Keep.upd (Keep.same (Same.refl _)) (Or.inl (by simp))) (Or.inl (by simp))
          have U6 := U.keepX k6 (s05 _ _ hx) (by show lN ∉ _; decide +kernel)
          have k06 : Keep [x] H (upd (upd H5 x (.ins c.L dx (lF ux wv0))) x (.ins c.L dx (lF ux .non))) := (Keep.same s05).trans k6
          have gx6 : upd (upd H5 x (.ins c.L dx (lF ux wv0))) x (.ins c.L dx (lF ux .non)) x = some (.ins c.L dx (lF ux .non)) := upd_same
          generalize upd (upd H5 x (.ins c.L dx (lF ux wv0))) x (.ins c.L dx (lF ux .non)) = H6 at k06 U6 gx6 ⊢
          have fU : ∀ k i v, uN.findIdx? (· == k) = some i → (uF l)[i]?.map (·.2) = some v → Has (uF l) k v := fun k i v h1 h2 => look (ns := uN) i rfl h1 h2
          have gu := (wo_at U6.ux).1
          have e40 := O.e40
          have ugood : ∀ j, j < u.events.length → ∃ ea de us md nd mk, l.es[j]? = some ea ∧ H6 ea = some (.ins c.E de (evF (u.events.getD j ⟨0, [], [], false⟩).t us md nd mk (u.events.getD j ⟨0, [], [], false⟩).cut)) := fun j hj => by
            obtain ⟨ea, hea, hE⟩ := U6.uE.get (i := j) (by rw [evD_get, List.getElem?_eq_getElem hj]; rfl)
            obtain ⟨de, us, md, nd, mk, g1, _⟩ := hE.same wo_same
            refine ⟨ea, de, us, md, nd, mk, hea, ?_⟩
            rw [List.getD_eq_getElem?_getD, List.getElem?_eq_getElem hj]
            exact g1
          have lenes : (l.es.map V.ref).length = u.events.length := by rw [List.length_map, U6.uE.len, evD_len]
          refine ⟨_, rfl, ux, c.U, l.dx, uF l, _, rfl, gu, TU.cl, TU.no _ (by decide +kernel), fU "events" 1 _ (by decide +kernel) rfl, l.evs, rfl, ⟨_, SqL.of U6.ue⟩, fun D hD => ?_⟩
          refine lc_pure (walk_list (K := K) (a := l.evs) (xs := l.es.map V.ref)) yAt (p := fun j => (u.events.getD j ⟨0, [], [], false⟩).cut) (f := fun j => (l.es.map V.ref).getD j .non) hD (by rw [lenes]; exact sz400 (by omega)) (fun H s2 => SqL.of (s2 _ _ U6.ue)) (fun x => rfl) (fun j H2 Q2 hj s2 h => ?_) (fun j H2 Q2 hj _ s2 h => ⟨_, rfl, h⟩) fun H7 s7 g7 => ?_
          · rw [lenes] at hj
            obtain ⟨ea, de, us, md, nd, mk, hea, g1⟩ := ugood j hj
            rw [getD_refs hea]
            exact ⟨_, rfl, ea, c.E, de, _, _, rfl, s2 _ _ g1, TE.cl, TE.no _ (by decide +kernel), look (ns := evN) 5 rfl (by decide +kernel) rfl, _, rfl, h⟩
          · refine ⟨_, rfl, ux, c.U, l.dx, uF l, _, rfl, s7 _ _ gu, TU.cl, TU.no _ (by decide +kernel), fU "events" 1 _ (by decide +kernel) rfl, l.evs, _, rfl, .inl (SqL.of (s7 _ _ U6.ue)), _, rfl, ux, c.U, l.dx, uF l, _, rfl, s7 _ _ gu, TU.cl, TU.no _ (by decide +kernel), fU "conditions" 2 _ (by decide +kernel) rfl, l.cds, _, rfl, .inl (SqL.of (s7 _ _ U6.uc)), _, rfl, D, _, rfl, .inl (SqL.of g7), by show 3 ≤ sizeLine; decide, fun p np => ?_⟩
            refine q _ p (k06.trans (Keep.same (snew s7 np))) ?_ ?_ ?_
            · refine k06.free (fun e => ?_) (s7.free np)
              rw [List.mem_singleton.mp e, s7 _ _ gx6] at np
              cases np
            · show upd H7 p _ p = _
              rw [upd_same]
              unfold begAns
              rw [e7, lenes, List.length_map, U6.uC.len, cdD_len, List.length_map, filter_range_len (fun e : Sq63.Event => e.cut) u.events ⟨0, [], [], false⟩]
              rfl
            · rw [e7]
              exact ⟨⟨dx, ux, l, B, .non, (snew s7 np) _ _ gx6, U6.same (snew s7 np), O, .inl rfl⟩, Nf, hu⟩
end
end NuP
end
/-! # NuFull -/
section
set_option linter.all false
namespace Nu
open Sq63
variable {g : Net} {m0 : Places} {u v : Unfolding}
/-- a row of events, and one more -/
structure Next (u : Unfolding) (C : List Nat) (e : Nat) : Prop where
  cfg : Cfg u C
  cfg1 : Cfg u (Sq63.insert e C)
  out : e ∉ C
theorem Next.used (A : Good g m0 u) {C : List Nat} {e c : Nat} (L : Next u C e) (hc : c ∈ usedOf u e) : c ∈ cut u C := by
  rw [mem_cut]
  obtain ⟨x, hx, hx2⟩ := used_ev hc
  have E := A.ev e x hx
  refine ⟨E.lt c hx2, fun f hf => ?_, fun f hf hq => ?_⟩
  · have hlt := E.old c hx2 f hf
    have h1 : f ∈ needsE u e := by
      rw [needsE_some hx, E.needs]
      refine mem_insert.mpr (Or.inr (mem_needAll.mpr ⟨c, hx2, ?_⟩))
      rw [needsOf_some hf]
      exact A.needsE_self (A.mkr c f hf)
    rcases mem_insert.mp (L.cfg1.dc e (mem_insert.mpr (Or.inl rfl)) f h1) with h2 | h2
    · omega
    · exact h2
  · exact L.cfg1.cf ⟨e, mem_insert.mpr (Or.inl rfl), f, mem_insert.mpr (Or.inr hf), fun q => L.out (by rw [q]; exact hf), c, hc, hq⟩
theorem Next.cut_iff (A : Good g m0 u) {C : List Nat} {e c : Nat} (L : Next u C e) : c ∈ cut u (Sq63.insert e C) ↔ (c ∈ cut u C ∧ c ∉ usedOf u e) ∨ c ∈ madeOf u e := by
  rw [mem_cut, mem_cut, mem_made]
  constructor
  · rintro ⟨h1, h2, h3⟩
    by_cases q : makerOf u c = some e
    · exact Or.inr ⟨h1, q⟩
    · refine Or.inl ⟨⟨h1, fun f hf => ?_, fun f hf => h3 f (mem_insert.mpr (Or.inr hf))⟩, h3 e (mem_insert.mpr (Or.inl rfl))⟩
      rcases mem_insert.mp (h2 f hf) with h | h
      · rw [h] at hf; exact absurd hf q
      · exact h
  · rintro (⟨⟨h1, h2, h3⟩, h4⟩ | ⟨h1, h2⟩)
    · refine ⟨h1, fun f hf => mem_insert.mpr (Or.inr (h2 f hf)), fun f hf => ?_⟩
      rcases mem_insert.mp hf with h | h
      · rw [h]; exact h4
      · exact h3 f h
    · refine ⟨h1, fun f hf => ?_, fun f hf hq => ?_⟩
      · rw [h2] at hf
        cases hf
        exact mem_insert.mpr (Or.inl rfl)
      · obtain ⟨x, hx, hx2⟩ := used_ev hq
        have hlt := (A.ev f x hx).old c hx2 e h2
        rcases mem_insert.mp hf with h | h
        · omega
        · refine L.out (L.cfg.dc f h e ?_)
          rw [needsE_some hx, (A.ev f x hx).needs]
          refine mem_insert.mpr (Or.inr (mem_needAll.mpr ⟨c, hx2, ?_⟩))
          rw [needsOf_some h2]
          exact A.needsE_self (A.mkr c e h2)
theorem Next.fire (A : Good g m0 u) (N : NetOk g m0) (S : Safe g m0) {C : List Nat} {e : Nat} (L : Next u C e) :
    ∃ x t, u.events[e]? = some x ∧ g.ts[x.t]? = some t ∧ may t (markingOf u C) = true ∧ markingOf u (Sq63.insert e C) = fired t (markingOf u C) := by
  obtain ⟨hi, hr⟩ := cfg_all A N S C.length C rfl L.cfg
  have he := L.cfg1.lt e (mem_insert.mpr (Or.inl rfl))
  have hx := List.getElem?_eq_getElem he
  have E := A.ev e _ hx
  obtain ⟨t, ht, hp⟩ := E.tr
  have hu : usedOf u e = (u.events[e]).used := usedOf_some hx
  have htm := List.mem_of_getElem? ht
  have hmay : may t (markingOf u C) = true := by
    unfold may
    rw [within_iff, ← hp]
    intro p hp
    obtain ⟨c, hc, rfl⟩ := List.mem_map.mp hp
    exact mem_marking.mpr ⟨c, L.used A (by rw [hu]; exact hc), rfl⟩
  have hmade := A.made e _ t hx ht
  have stay : ∀ c, c ∈ cut u C → c ∉ usedOf u e → placeOf u c ∉ t.takes := by
    intro c hc hn hq
    rw [← hp] at hq
    obtain ⟨d, hd, hde⟩ := List.mem_map.mp hq
    have := hi d (L.used A (by rw [hu]; exact hd)) c hc hde
    subst this
    exact hn (by rw [hu]; exact hd)
  have putM : ∀ c, c ∈ madeOf u e → placeOf u c ∈ t.puts := fun c hc => by rw [← hmade]; exact List.mem_map.mpr ⟨c, hc, rfl⟩
  refine ⟨_, t, hx, ht, hmay, ?_⟩
  refine rise_ext (marking_rise _) (union_rise ((marking_rise _).filter _)) fun p => ?_
  show p ∈ markingOf u (Sq63.insert e C) ↔ p ∈ Sq63.union t.puts ((markingOf u C).filter fun p => !t.takes.contains p)
  rw [mem_union, mem_marking, List.mem_filter]
  constructor
  · rintro ⟨c, hc, rfl⟩
    rcases (L.cut_iff A).mp hc with ⟨h1, h2⟩ | h1
    · exact Or.inr ⟨mem_marking.mpr ⟨c, h1, rfl⟩, by simpa using stay c h1 h2⟩
    · exact Or.inl (putM c h1)
  · rintro (h | ⟨h1, h2⟩)
    · rw [← hmade] at h
      obtain ⟨c, hc, rfl⟩ := List.mem_map.mp h
      exact ⟨c, (L.cut_iff A).mpr (Or.inr hc), rfl⟩
    · obtain ⟨c, hc, rfl⟩ := mem_marking.mp h1
      refine ⟨c, (L.cut_iff A).mpr (Or.inl ⟨hc, fun hq => ?_⟩), rfl⟩
      have : placeOf u c ∈ t.takes := by rw [← hp]; exact List.mem_map.mpr ⟨c, by rw [← hu]; exact hq, rfl⟩
      simp [this] at h2
/-- so many firings -/
inductive Run (g : Net) (a : Places) : Nat → Places → Prop
  | zero : Run g a 0 a
  | step {n : Nat} {m : Places} {t : Transition} : Run g a n m → t ∈ g.ts → may t m = true → Run g a (n + 1) (fired t m)
theorem Run.trans {a b c : Places} {n k : Nat} (h1 : Run g a n b) (h2 : Run g b k c) : Run g a (n + k) c := by
  induction h2 with
  | zero => exact h1
  | step _ h h' ih => exact .step ih h h'
theorem Run.reach {m : Places} {n : Nat} (h : Run g m0 n m) : Reach g m0 m := by
  induction h with
  | zero => exact .base
  | step _ h h' ih => exact .step ih h h'
theorem Reach.run {m : Places} (h : Reach g m0 m) : ∃ n, Run g m0 n m := by
  induction h with
  | base => exact ⟨0, .zero⟩
  | step _ h h' ih =>
    obtain ⟨n, ih⟩ := ih
    exact ⟨n + 1, .step ih h h'⟩
theorem sub_len_eq : ∀ {C D : List Nat}, C.Pairwise (· < ·) → D.Pairwise (· < ·) → (∀ x, x ∈ D → x ∈ C) → C.length ≤ D.length → D = C := by
  intro C D hC hD hs hl
  refine rise_ext hD hC fun x => ⟨hs x, fun hx => ?_⟩
  apply Classical.byContradiction
  intro hn
  have := nodup_sub_len (l := x :: D) (L := C) (List.nodup_cons.mpr ⟨hn, rise_nodup hD⟩) fun y hy => by
    rcases List.mem_cons.mp hy with rfl | hy
    · exact hx
    · exact hs y hy
  rw [List.length_cons] at this
  omega
theorem run_between (A : Good g m0 u) (N : NetOk g m0) (S : Safe g m0) {C : List Nat} (hC : Cfg u C) : ∀ (n : Nat) (D : List Nat), Cfg u D → (∀ x, x ∈ D → x ∈ C) → C.length = D.length + n → Run g (markingOf u D) n (markingOf u C)
  | 0, D, hD, hs, hn => by
    rw [sub_len_eq hC.rise hD.rise hs (by omega)]
    exact .zero
  | n + 1, D, hD, hs, hn => by
    obtain ⟨e, he⟩ : ∃ e, (C.filter fun e => !D.contains e).head? = some e := by
      cases q : C.filter fun e => !D.contains e with
      | cons a l => exact ⟨a, rfl⟩
      | nil =>
        have := nodup_sub_len (rise_nodup hC.rise) (L := D) fun x hx => by
          apply Classical.byContradiction
          intro hn
          have : x ∈ C.filter fun e => !D.contains e := List.mem_filter.mpr ⟨hx, by simpa using hn⟩
          rw [q] at this
          simp at this
        omega
    have hem := List.mem_of_head? he
    obtain ⟨heC, heD⟩ := List.mem_filter.mp hem
    have heD : e ∉ D := by simpa using heD
    have least : ∀ k, k ∈ C → k < e → k ∈ D := fun k hk hlt => by
      apply Classical.byContradiction
      intro hn
      have hm : k ∈ C.filter fun e => !D.contains e := List.mem_filter.mpr ⟨hk, by simpa using hn⟩
      have hr := hC.rise.filter (fun e => !D.contains e)
      cases q : C.filter fun e => !D.contains e with
      | nil => rw [q] at he; cases he
      | cons a l =>
        rw [q] at he hm hr
        have ea : a = e := by simpa using he
        rcases List.mem_cons.mp hm with h | h
        · omega
        · have := (List.pairwise_cons.mp hr).1 k h
          omega
    have sub : ∀ x, x ∈ Sq63.insert e D → x ∈ C := fun x hx => by
      rcases mem_insert.mp hx with rfl | hx
      · exact heC
      · exact hs x hx
    have c1 : Cfg u (Sq63.insert e D) := by
      refine ⟨insert_rise hD.rise, fun x hx => hC.lt x (sub x hx), fun x hx k hk => ?_, fun q => hC.cf (q.mono sub sub)⟩
      rcases mem_insert.mp hx with h | hx
      · rw [h] at hk
        have h1 := hC.dc e heC k hk
        have h2 := (A.needsE_le hk).1
        by_cases q : k = e
        · exact mem_insert.mpr (Or.inl q)
        · exact mem_insert.mpr (Or.inr (least k h1 (by omega)))
      · exact mem_insert.mpr (Or.inr (hD.dc x hx k hk))
    have L : Next u D e := ⟨hD, c1, heD⟩
    obtain ⟨x, t, hx, ht, hm, hf⟩ := L.fire A N S
    have r := run_between A N S hC n (Sq63.insert e D) c1 sub (by rw [insert_len hD.rise heD]; omega)
    have r1 : Run g (markingOf u D) 1 (markingOf u (Sq63.insert e D)) := by
      rw [hf]
      exact .step .zero (List.mem_of_getElem? ht) hm
    rw [show n + 1 = 1 + n by omega]
    exact r1.trans r
/-- cut off, and why -/
def OffOk (m0 : Places) (u : Unfolding) : Prop := ∀ (e : Nat) (x : Event), u.events[e]? = some x → x.cut = true → markingOf u x.needs = m0 ∨ ∃ (f : Nat) (y : Event), u.events[f]? = some y ∧ y.needs.length < x.needs.length ∧ markingOf u y.needs = markingOf u x.needs
theorem cut_co {C : List Nat} (A : Good g m0 u) (h : Cfg u C) {c d : Nat} (hc : c ∈ cut u C) (hd : d ∈ cut u C) : Co u c d := by
  rw [mem_cut] at hc hd
  have sub : ∀ {c : Nat}, (∀ e, makerOf u c = some e → e ∈ C) → ∀ x, x ∈ needsOf u c → x ∈ C := fun {c} hc x hx => by
    obtain ⟨e, he, hxe⟩ := needsOf_mem hx
    exact h.dc e (hc e he) x hxe
  exact ⟨fun q => h.cf (q.mono (sub hc.2.1) (sub hd.2.1)), fun x hx => hc.2.2 x (sub hd.2.1 x hx), fun x hx => hd.2.2 x (sub hc.2.1 x hx)⟩
theorem pick_at {C : List Nat} : ∀ (ps : List Nat), (∀ p, p ∈ ps → p ∈ markingOf u C) → ∃ cs : List Nat, cs.map (placeOf u) = ps ∧ ∀ c, c ∈ cs → c ∈ cut u C
  | [], _ => ⟨[], rfl, by simp⟩
  | p :: ps, h => by
    obtain ⟨cs, h1, h2⟩ := pick_at ps fun q hq => h q (by simp [hq])
    obtain ⟨c, hc, hp⟩ := mem_marking.mp (h p (by simp))
    refine ⟨c :: cs, by rw [List.map_cons, h1, hp], fun d hd => ?_⟩
    rcases List.mem_cons.mp hd with rfl | hd
    · exact hc
    · exact h2 d hd
/-- point 1: all that's come to is there behind some events that can have happened -/
theorem complete (A : Good g m0 u) (N : NetOk g m0) (S : Safe g m0) (O : OffOk m0 u) (full : ∀ t cs, ¬ Poss g u t cs) : ∀ (n : Nat) (M : Places), Run g m0 n M → ∃ C, Conf u C ∧ C.length ≤ n ∧ markingOf u C = M := by
  intro n
  induction n using Nat.strongRecOn with
  | _ n ih =>
    intro M hM
    cases hM with
    | zero => exact ⟨[], conf_nil, Nat.le_refl _, marking_nil A N⟩
    | @step k m t hm htm hmay =>
      obtain ⟨C, hC, hl, rfl⟩ := ih k (Nat.lt_succ_self _) m hm
      obtain ⟨ti, hti⟩ := List.mem_iff_getElem?.mp htm
      obtain ⟨cs, hp, hcut⟩ := pick_at (u := u) (C := C) t.takes (within_iff.mp hmay)
      have F : Fits u t.takes cs := ⟨fun c hc => (mem_cut.mp (hcut c hc)).1, hp, fun c hc => by
        have hc' := mem_cut.mp (hcut c hc)
        rw [Grow.open_eq u c hc'.1]
        cases q : makerOf u c with
        | none => rfl
        | some e =>
          obtain ⟨x, hx, hcx⟩ := hC.on e (hc'.2.1 e q)
          simp [hx, hcx]⟩
      have T : together u cs = true := together_co.mpr fun c hc d hd => cut_co A hC.cfg (hcut c hc) (hcut d hd)
      obtain ⟨e, x, hx, hxt, hxu⟩ : ∃ (e : Nat) (x : Event), u.events[e]? = some x ∧ x.t = ti ∧ x.used = cs := by
        apply Classical.byContradiction
        intro hn
        exact full ti cs ⟨⟨t, hti, F⟩, T, fun e x hx ht hu => hn ⟨e, x, hx, ht, hu⟩⟩
      have E := A.ev e x hx
      have used : usedOf u e = cs := by rw [usedOf_some hx, hxu]
      have csne : cs ≠ [] := fun q => N.some_ t htm (by rw [← hp, q]; rfl)
      have out : e ∉ C := fun q => by
        obtain ⟨c, hc⟩ := List.exists_mem_of_ne_nil cs csne
        exact (mem_cut.mp (hcut c hc)).2.2 e q (by rw [used]; exact hc)
      have nsub : ∀ d, d ∈ x.needs → d = e ∨ d ∈ C := fun d hd => by
        rw [E.needs, hxu] at hd
        rcases mem_insert.mp hd with h | h
        · exact Or.inl h
        · obtain ⟨c, hc, hdc⟩ := mem_needAll.mp h
          obtain ⟨f, hf, hdf⟩ := needsOf_mem hdc
          exact Or.inr (hC.cfg.dc f ((mem_cut.mp (hcut c hc)).2.1 f hf) d hdf)
      have c1 : Cfg u (Sq63.insert e C) := by
        refine ⟨insert_rise hC.cfg.rise, fun d hd => ?_, fun d hd k hk => ?_, ?_⟩
        · rcases mem_insert.mp hd with h | h
          · rw [h]; exact (List.getElem?_eq_some_iff.mp hx).1
          · exact hC.cfg.lt d h
        · rcases mem_insert.mp hd with h | h
          · rw [h, needsE_some hx] at hk
            exact mem_insert.mpr (nsub k hk)
          · exact mem_insert.mpr (Or.inr (hC.cfg.dc d h k hk))
        · rintro ⟨a, ha, b, hb, hne, c, hc1, hc2⟩
          rcases mem_insert.mp ha with ea | ha' <;> rcases mem_insert.mp hb with eb | hb'
          · exact hne (ea.trans eb.symm)
          · rw [ea, used] at hc1
            exact (mem_cut.mp (hcut c hc1)).2.2 b hb' hc2
          · rw [eb, used] at hc2
            exact (mem_cut.mp (hcut c hc2)).2.2 a ha' hc1
          · exact hC.cfg.cf ⟨a, ha', b, hb', hne, c, hc1, hc2⟩
      have L : Next u C e := ⟨hC.cfg, c1, out⟩
      have len := insert_len hC.cfg.rise out
      obtain ⟨x', t', hx', ht', _, hf⟩ := L.fire A N S
      rw [hx] at hx'
      cases hx'
      rw [hxt, hti] at ht'
      cases ht'
      cases hcx : x.cut with
      | false =>
        refine ⟨Sq63.insert e C, ⟨c1, fun d hd => ?_⟩, by omega, hf⟩
        rcases mem_insert.mp hd with h | h
        · rw [h]; exact ⟨x, hx, hcx⟩
        · exact hC.on d h
      | true =>
        have lc := local_cfg A (List.getElem?_eq_some_iff.mp hx).1
        rw [needsE_some hx] at lc
        have lsub : ∀ d, d ∈ x.needs → d ∈ Sq63.insert e C := fun d hd => mem_insert.mpr (nsub d hd)
        have hle := nodup_sub_len (rise_nodup lc.rise) lsub
        have r2 := run_between A N S c1 ((Sq63.insert e C).length - x.needs.length) x.needs lc lsub (by omega)
        rw [hf] at r2
        have hpos : 0 < x.needs.length := List.length_pos_of_mem E.self
        rcases O e x hx hcx with h0 | ⟨f, y, hy, hyl, hym⟩
        · rw [h0] at r2
          obtain ⟨D, h1, h2, h3⟩ := ih _ (by omega) _ r2
          exact ⟨D, h1, by omega, h3⟩
        · have ly := local_cfg A (List.getElem?_eq_some_iff.mp hy).1
          rw [needsE_some hy] at ly
          have r1 := run_between A N S ly y.needs.length [] conf_nil.cfg (by simp) (by simp)
          rw [marking_nil A N, hym] at r1
          obtain ⟨D, h1, h2, h3⟩ := ih _ (by omega) _ (r1.trans r2)
          exact ⟨D, h1, by omega, h3⟩
theorem conf_run (A : Good g m0 u) (N : NetOk g m0) (S : Safe g m0) {C : List Nat} (h : Conf u C) : Run g m0 C.length (markingOf u C) := by
  have := run_between A N S h.cfg C.length [] conf_nil.cfg (by simp) (by simp)
  rwa [marking_nil A N] at this
theorem come_to (A : Good g m0 u) (N : NetOk g m0) (S : Safe g m0) (O : OffOk m0 u) (full : ∀ t cs, ¬ Poss g u t cs) (M : Places) : (∃ C, Conf u C ∧ markingOf u C = M) ↔ Reach g m0 M := by
  constructor
  · rintro ⟨C, h, rfl⟩
    exact (conf_run A N S h).reach
  · intro h
    obtain ⟨n, h⟩ := h.run
    obtain ⟨C, h1, _, h2⟩ := complete A N S O full n M h
    exact ⟨C, h1, h2⟩
end Nu
end
/-! # NuDone -/
section
set_option linter.all false
namespace Nu
open Sq63
variable {g : Net} {m0 : Places} {u v w : Unfolding} {t : Nat} {cs : List Nat} {tr : Transition} {off : Bool}
theorem off_add (A : Good g m0 u) (P : Poss g u t cs) (ht : g.ts[t]? = some tr) (O : OffOk m0 u) : OffOk m0 (add g m0 u (t, (cs, needAll u cs))) := by
  have G := add_grow (g := g) (m0 := m0) (u := u) (cs := cs) ht
  have old : ∀ (e : Nat) (x : Event), u.events[e]? = some x → markingOf (add g m0 u (t, (cs, needAll u cs))) x.needs = markingOf u x.needs := fun e x hx => marking_old G fun f hf => by
    have := (A.ev e x hx).nle f hf
    have := (List.getElem?_eq_some_iff.mp hx).1
    omega
  intro e x hx hc
  by_cases he : e < u.events.length
  · rw [G.ev_old he] at hx
    rw [old e x hx]
    rcases O e x hx hc with h | ⟨f, y, hy, h1, h2⟩
    · exact Or.inl h
    · refine Or.inr ⟨f, y, ?_, h1, ?_⟩
      · rw [G.ev_old (List.getElem?_eq_some_iff.mp hy).1]; exact hy
      · rw [old f y hy]; exact h2
  · have hl := (List.getElem?_eq_some_iff.mp hx).1
    rw [G.elen] at hl
    have ee : e = u.events.length := by omega
    rw [ee, G.ev_new] at hx
    cases hx
    have hc : offOf g m0 u t cs = true := hc
    unfold offOf at hc
    simp only [Bool.or_eq_true, beq_iff_eq, List.any_eq_true, Bool.and_eq_true, decide_eq_true_eq] at hc
    rcases hc with h | ⟨y, hy, h1, h2⟩
    · exact Or.inl h
    · obtain ⟨f, hf⟩ := List.mem_iff_getElem?.mp hy
      refine Or.inr ⟨f, y, ?_, h1, h2⟩
      rw [G.ev_old (List.getElem?_eq_some_iff.mp hf).1]; exact hf
theorem unfold_ok : ∀ (f : Nat) (u w : Unfolding), Good g m0 u → OffOk m0 u → unfold g m0 f u = some w → Good g m0 w ∧ OffOk m0 w ∧ (∀ t cs, ¬ Poss g w t cs) ∧ w.events.length + 1 ≤ u.events.length + f
  | 0, u, w, _, _, h => by cases h
  | f + 1, u, w, A, O, h => by
    unfold unfold at h
    cases hs : soonest (possible g u) with
    | none =>
      rw [hs] at h
      cases h
      refine ⟨A, O, fun t cs P => ?_, by omega⟩
      have := possible_iff.mpr ⟨P, rfl⟩
      rw [soonest_none.mp hs] at this
      simp at this
    | some x =>
      rw [hs] at h
      obtain ⟨t, cs, nd⟩ := x
      obtain ⟨P, rfl⟩ := possible_iff.mp (soonest_some hs).1
      obtain ⟨tr, ht, _⟩ := P.fit
      have G := add_grow (g := g) (m0 := m0) (u := u) (cs := cs) ht
      obtain ⟨h1, h2, h3, h4⟩ := unfold_ok f _ w (G.good A P ht) (off_add A P ht O) h
      refine ⟨h1, h2, h3, ?_⟩
      rw [G.elen] at h4
      omega
theorem unfolded_ok (h : g.unfolded m0 = some w) : Good g m0 w ∧ OffOk m0 w ∧ (∀ t cs, ¬ Poss g w t cs) ∧ w.events.length ≤ 40 := by
  obtain ⟨h1, h2, h3, h4⟩ := unfold_ok (EVENTS + 1) (start m0) w good_start (fun e x hx => by simp [start] at hx) h
  refine ⟨h1, h2, h3, ?_⟩
  have : w.events.length + 1 ≤ 0 + 41 := h4
  omega
end Nu
end
/-! # NuP23 -/
section
set_option Elab.async false
set_option maxRecDepth 100000
set_option maxHeartbeats 4000000
set_option linter.all false
namespace NuP
open PySem PySem.Spec PyProof.Rows L2
open Sq63 (Net Places Transition Unfolding House)
variable {P : Program} {w : World} {K : PySem.W.Frag} {mg : Str → Option Value} {base : Heap}
def spLin (c : Cs) : Sp := fun vs H Q _ => ∃ (x dx : Addr), vs = [.ref x] ∧ H x = some (.ins c.L dx []) ∧ ∀ H' : Hp, LineAt c H' x Sq63.fresh → Keep [x] H H' → Q .non H'
abbrev sLin : Stmt := inClass (top 45) 0
abbrev nLin : List Str := ["self"]
theorem scLin : FnScope nLin ["self"] (defScope sLin) := ⟨rfl, rfl, rfl, by decide +kernel, rfl, by decide +kernel, by decide +kernel⟩
theorem fresh_fit : NetFit ⟨1, []⟩ [] := ⟨by decide, by decide, rfl, by simp, fun m t _ ht => by simp at ht⟩
theorem fresh_unf : Net.unfolded ⟨1, []⟩ [] = some ⟨[], []⟩ := rfl
theorem ok_lin {c : Cs} {f fN fU : Addr} {fd fdN fdU : FuncData} (F : Fun K "__init__" "Line.__init__" sLin f fd) (TL : ClsT K mg "Line" c.L lN) (TN : ClsT K mg "Net" c.N ["places", "transitions", "marking"])
    (GN : FnOk P w K mg base CX0 1 fN fdN ["self", "places", "transitions", "marking"] (spNet c.N)) (bN : Binds K fdN ["self", "places", "transitions", "marking"] []) (mN : Mk K c.N fN)
    (GU : FnOk P w K mg base CX0 6 fU fdU ["net"] (spUnf c)) (bU : Binds K fdU ["net"] []) (gU : mg "unfold" = some (.ref fU)) (kU : PySem.W.keepIn K (.ref fU) = true) : FnOk P w K mg base CX0 7 f fd ["self"] (spLin c) := by
  refine F.ok scLin (fun vs H Q E h => ?_) (fun cdv A outer s H vs Q E hr h => ?_)
  · obtain ⟨x, dx, rfl, _⟩ := h
    rfl
  · obtain ⟨x, dx, rfl, hx, q⟩ := h
    have hr2 : Room 2 _ := hr.mono (by decide)
    refine ⟨_, pss_cons (ps_fld (pv 0) (pe_call GU hr rfl gU kU bU .nil pass0 (pa_cons (pe_make mN GN hr2 rfl TN.gl bN .nil pass0 (pa_cons pe_int (pa_cons (pe_lst pa_nil) (pa_cons (pe_tup pa_nil) pa_nil)))) pa_nil)) rfl) (pss_one (ps_fld (pv 0) pe_non rfl)), ?_⟩
    refine ⟨by show 0 ≤ sizeLine; decide, fun tp ntp => ⟨by show 0 ≤ sizeLine; decide, fun mt nmt => ?_⟩⟩
    intro nx dn nnx ndn hne
    refine ⟨nx, dn, 1, tp, mt, rfl, upd_same, fun H3 gnet kp => ⟨rfl, ?_⟩⟩
    have sm : Same (upd (upd H tp (.lst [])) mt (.tup [])) H3 := Same.made nnx ndn fun b o e hb => kp b o e (by simpa using hb)
    have s3 : Same H H3 := (snew (snew (Same.refl _) ntp) nmt).trans sm
    have gmt : TupAt H3 mt [] := sm _ _ upd_same
    have gtp : H3 tp = some (.lst (([] : List Addr).map V.ref)) := sm _ _ ((upd_ne (ne_of_none upd_same nmt)).trans upd_same)
    refine ⟨nx, dn, tp, mt, [], ⟨1, []⟩, [], rfl, ⟨gnet, gtp, gmt, AllAt.nil⟩, fresh_fit, fun hN => ?_, fun u hu H5 ux l B s5 U O nux hM => ?_⟩
    · rw [fresh_unf] at hN
      cases hN
    · rw [fresh_unf] at hu
      cases hu
      have hx5 := s5 _ _ (s3 _ _ hx)
      refine ⟨_, rfl, x, c.L, dx, [], rfl, hx5, TL.cl, TL.no _ (by decide +kernel), (by show 0 < 1000; decide), ?_⟩
      refine ⟨_, rfl, x, c.L, dx, _, rfl, upd_same, TL.cl, TL.no _ (by decide +kernel), (by show 1 < 1000; decide), ?_⟩
      rw [putN (fs := []) (ns := []) rfl rfl, putN (fs := [] ++ [_]) (ns := ["unfolding"]) rfl (by decide +kernel)]
      have k6 : Keep [x] H5 (upd (upd H5 x (.ins c.L dx (([] : List (Str × V)) ++ [(("unfolding" : Str), V.ref ux)]))) x (.ins c.L dx (lF ux .non))) := Keep.upd (Keep.upd (Keep.same (Same.refl _)) (Or.inl (by simp))) (Or.inl (by simp))
      exact q _ ⟨⟨dx, ux, l, B, .non, upd_same, U.keepX k6 hx5 (by show [] ∉ _; decide +kernel), O, .inl rfl⟩, fresh_fit, fresh_unf⟩ ((Keep.same (s3.trans s5)).trans k6)
/-! ### calls 5 and 6, as the specification tells them -/
theorem there_bits {g : Net} {m0 : Places} {u : Unfolding} {B l : List Nat} (O : UnfOk g m0 u B) (hl : ∀ c, c ∈ l → c < u.conds.length) : Sq63.together u l = true ↔ ∀ c, c ∈ l → ∀ d, d ∈ l → c ≠ d → ((B[c]?).getD 0).testBit d = true := by
  rw [Nu.together_co]
  constructor
  · intro h c hc d hd hne
    exact (O.bes.at_ (hl c hc) d).mpr ⟨hl d hd, hne, h c hc d hd⟩
  · intro h c hc d hd
    by_cases e : c = d
    · rw [e]; exact O.good.co_self d
    · exact ((O.bes.at_ (hl c hc) d).mp (h c hc d hd e)).2.2
end NuP
end
/-! # NuParse -/
section
set_option linter.all false
namespace Nu
/-- a row with its length ahead, at a place of the list -/
def RowR (l : List Nat) (n : Nat) (r : List Nat) (n' : Nat) : Prop := ∃ k, l[n]? = some k ∧ n + 1 + k ≤ l.length ∧ r = (l.drop (n + 1)).take k ∧ n' = n + 1 + k
/-- a call at a place of the list -/
inductive CallAt (l : List Nat) (n : Nat) : Sq63.Call → Nat → Prop
  | begin_ {a n1 n2 : Nat} {r0 r1 : List Nat} : l[n]? = some 1 → l[n + 1]? = some a → RowR l (n + 2) r0 n1 → RowR l n1 r1 n2 → CallAt l n (.begin_ a r0 r1) n2
  | events : l[n]? = some 2 → CallAt l n .events (n + 1)
  | conds : l[n]? = some 3 → CallAt l n .conds (n + 1)
  | event {a : Nat} : l[n]? = some 4 → l[n + 1]? = some a → CallAt l n (.event a) (n + 2)
  | two {a b : Nat} : l[n]? = some 5 → l[n + 1]? = some a → l[n + 2]? = some b → CallAt l n (.two a b) (n + 3)
  | there {r : List Nat} {n' : Nat} : l[n]? = some 6 → RowR l (n + 1) r n' → CallAt l n (.there r) n'
  | reach : l[n]? = some 7 → CallAt l n .reach (n + 1)
  | way {r : List Nat} {n' : Nat} : l[n]? = some 8 → RowR l (n + 1) r n' → CallAt l n (.way r) n'
abbrev Z (l : List Nat) : List Int := l.map Int.ofNat
theorem z_cons {l : List Nat} {n : Nat} {p : Int} {r : List Int} (h : (Z l).drop n = p :: r) : ∃ k : Nat, l[n]? = some k ∧ p = (k : Int) ∧ r = (Z l).drop (n + 1) := by
  have hl : n < (Z l).length := by
    apply Classical.byContradiction
    intro q
    rw [List.drop_eq_nil_of_le (by omega)] at h
    cases h
  rw [List.drop_eq_getElem_cons hl] at h
  obtain ⟨h1, h2⟩ := List.cons.inj h
  have hl' : n < l.length := by simpa using hl
  refine ⟨l[n], List.getElem?_eq_getElem hl', ?_, h2.symm⟩
  rw [← h1]
  simp
theorem row_at {l : List Nat} {n : Nat} {x s : List Int} (h : PyFlat.row ((Z l).drop n) = some (x, s)) : ∃ r n', RowR l n r n' ∧ x = Z r ∧ s = (Z l).drop n' ∧ n < n' ∧ n' ≤ l.length := by
  cases q : (Z l).drop n with
  | nil => rw [q] at h; cases h
  | cons p r =>
    obtain ⟨k, hk, rfl, rfl⟩ := z_cons q
    rw [q] at h
    unfold PyFlat.row at h
    simp only at h
    by_cases c : (0 : Int) ≤ (k : Int) ∧ ((k : Int)).toNat ≤ ((Z l).drop (n + 1)).length
    · rw [if_pos c] at h
      obtain ⟨h1, h2⟩ := Prod.mk.inj (Option.some.inj h)
      have hlen : k ≤ l.length - (n + 1) := by
        have := c.2
        rw [Int.toNat_natCast, List.length_drop, List.length_map] at this
        exact this
      have hn := (List.getElem?_eq_some_iff.mp hk).1
      refine ⟨(l.drop (n + 1)).take k, n + 1 + k, ⟨k, hk, by omega, rfl, rfl⟩, ?_, ?_, by omega, by omega⟩
      · rw [← h1, Int.toNat_natCast, Z, Z, ← List.map_drop, ← List.map_take]
      · rw [← h2, Int.toNat_natCast, List.drop_drop]
    · rw [if_neg c] at h; cases h
theorem z_toNat (r : List Nat) : (Z r).map Int.toNat = r := by
  rw [Z, List.map_map]
  exact (List.map_congr_left fun n _ => rfl).trans (List.map_id' r)
theorem call_at {l : List Nat} {n : Nat} {c : List (List Int)} {t : List Int} (h : PyFlat.call PySq63.shape ((Z l).drop n) = some (c, t)) : ∃ x n', CallAt l n x n' ∧ t = (Z l).drop n' ∧ Sq63Neutral.callOf (PySq63.whole c) = some x ∧ n < n' ∧ n' ≤ l.length := by
  cases q : (Z l).drop n with
  | nil => rw [q] at h; cases h
  | cons p r =>
    obtain ⟨k, hk, rfl, rfl⟩ := z_cons q
    have hn := (List.getElem?_eq_some_iff.mp hk).1
    rw [q] at h
    unfold PyFlat.call at h
    simp only at h
    have num : ∀ j, j < l.length → ∃ a : Nat, l[j]? = some a ∧ (Z l).drop j = (a : Int) :: (Z l).drop (j + 1) := fun j hj => by
      refine ⟨l[j], List.getElem?_eq_getElem hj, ?_⟩
      rw [List.drop_eq_getElem_cons (by simpa using hj)]
      simp
    by_cases k1 : k = 1
    · subst k1
      rw [show PySq63.shape ((1 : Nat) : Int) = some (1, 2) from rfl] at h
      simp only at h
      by_cases c1 : ((Z l).drop (n + 1)).length < 1
      · rw [if_pos c1] at h; cases h
      · rw [if_neg c1, List.drop_drop] at h
        have hn1 : n + 1 < l.length := by
          rw [List.length_drop, List.length_map] at c1; omega
        obtain ⟨a, ha, hd⟩ := num (n + 1) hn1
        simp only [PyFlat.rows] at h
        cases h0 : PyFlat.row ((Z l).drop (n + 1 + 1)) with
        | none => rw [h0] at h; simp at h
        | some x0 =>
          obtain ⟨x0, s0⟩ := x0
          rw [h0] at h
          obtain ⟨r0, n1, R0, rfl, rfl, l1, l2⟩ := row_at h0
          simp only at h
          cases h1 : PyFlat.row ((Z l).drop n1) with
          | none => rw [h1] at h; simp at h
          | some x1 =>
            obtain ⟨x1, s1⟩ := x1
            rw [h1] at h
            obtain ⟨r1, n2, R1, rfl, rfl, l3, l4⟩ := row_at h1
            simp only [Option.some.injEq, Prod.mk.injEq] at h
            obtain ⟨rfl, rfl⟩ := h
            refine ⟨.begin_ a r0 r1, n2, .begin_ hk ha R0 R1, rfl, ?_, by omega, l4⟩
            rw [hd]
            show some (Sq63.Call.begin_ _ ((Z r0).map Int.toNat) ((Z r1).map Int.toNat)) = _
            rw [z_toNat, z_toNat]
            rfl
    by_cases k2 : k = 2
    · subst k2
      rw [show PySq63.shape ((2 : Nat) : Int) = some (0, 0) from rfl] at h
      simp only [PyFlat.rows, Nat.not_lt_zero, if_false, List.drop_zero, List.take_zero, Option.some.injEq, Prod.mk.injEq] at h
      obtain ⟨rfl, rfl⟩ := h
      exact ⟨.events, n + 1, .events hk, rfl, rfl, by omega, by omega⟩
    by_cases k3 : k = 3
    · subst k3
      rw [show PySq63.shape ((3 : Nat) : Int) = some (0, 0) from rfl] at h
      simp only [PyFlat.rows, Nat.not_lt_zero, if_false, List.drop_zero, List.take_zero, Option.some.injEq, Prod.mk.injEq] at h
      obtain ⟨rfl, rfl⟩ := h
      exact ⟨.conds, n + 1, .conds hk, rfl, rfl, by omega, by omega⟩
    by_cases k4 : k = 4
    · subst k4
      rw [show PySq63.shape ((4 : Nat) : Int) = some (1, 0) from rfl] at h
      simp only at h
      by_cases c1 : ((Z l).drop (n + 1)).length < 1
      · rw [if_pos c1] at h; cases h
      · rw [if_neg c1, List.drop_drop] at h
        have hn1 : n + 1 < l.length := by
          rw [List.length_drop, List.length_map] at c1; omega
        obtain ⟨a, ha, hd⟩ := num (n + 1) hn1
        simp only [PyFlat.rows, Option.some.injEq, Prod.mk.injEq] at h
        obtain ⟨rfl, rfl⟩ := h
        refine ⟨.event a, n + 2, .event hk ha, rfl, ?_, by omega, by omega⟩
        rw [hd]
        rfl
    by_cases k5 : k = 5
    · subst k5
      rw [show PySq63.shape ((5 : Nat) : Int) = some (2, 0) from rfl] at h
      simp only at h
      by_cases c1 : ((Z l).drop (n + 1)).length < 2
      · rw [if_pos c1] at h; cases h
      · rw [if_neg c1, List.drop_drop] at h
        have hn1 : n + 2 < l.length := by
          rw [List.length_drop, List.length_map] at c1; omega
        obtain ⟨a, ha, hd⟩ := num (n + 1) (by omega)
        obtain ⟨b, hb, hd2⟩ := num (n + 2) hn1
        simp only [PyFlat.rows, Option.some.injEq, Prod.mk.injEq] at h
        obtain ⟨rfl, rfl⟩ := h
        refine ⟨.two a b, n + 3, .two hk ha hb, rfl, ?_, by omega, by omega⟩
        rw [hd, hd2]
        rfl
    by_cases k6 : k = 6
    · subst k6
      rw [show PySq63.shape ((6 : Nat) : Int) = some (0, 1) from rfl] at h
      simp only [PyFlat.rows, Nat.not_lt_zero, if_false, List.drop_zero, List.take_zero] at h
      cases h0 : PyFlat.row ((Z l).drop (n + 1)) with
      | none => rw [h0] at h; simp at h
      | some x0 =>
        obtain ⟨x0, s0⟩ := x0
        rw [h0] at h
        obtain ⟨r0, n1, R0, rfl, rfl, l1, l2⟩ := row_at h0
        simp only [Option.some.injEq, Prod.mk.injEq] at h
        obtain ⟨rfl, rfl⟩ := h
        refine ⟨.there r0, n1, .there hk R0, rfl, ?_, by omega, l2⟩
        show some (Sq63.Call.there ((Z r0).map Int.toNat)) = _
        rw [z_toNat]
    by_cases k7 : k = 7
    · subst k7
      rw [show PySq63.shape ((7 : Nat) : Int) = some (0, 0) from rfl] at h
      simp only [PyFlat.rows, Nat.not_lt_zero, if_false, List.drop_zero, List.take_zero, Option.some.injEq, Prod.mk.injEq] at h
      obtain ⟨rfl, rfl⟩ := h
      exact ⟨.reach, n + 1, .reach hk, rfl, rfl, by omega, by omega⟩
    by_cases k8 : k = 8
    · subst k8
      rw [show PySq63.shape ((8 : Nat) : Int) = some (0, 1) from rfl] at h
      simp only [PyFlat.rows, Nat.not_lt_zero, if_false, List.drop_zero, List.take_zero] at h
      cases h0 : PyFlat.row ((Z l).drop (n + 1)) with
      | none => rw [h0] at h; simp at h
      | some x0 =>
        obtain ⟨x0, s0⟩ := x0
        rw [h0] at h
        obtain ⟨r0, n1, R0, rfl, rfl, l1, l2⟩ := row_at h0
        simp only [Option.some.injEq, Prod.mk.injEq] at h
        obtain ⟨rfl, rfl⟩ := h
        refine ⟨.way r0, n1, .way hk R0, rfl, ?_, by omega, l2⟩
        show some (Sq63.Call.way ((Z r0).map Int.toNat)) = _
        rw [z_toNat]
    · have : PySq63.shape (k : Int) = none := by
        unfold PySq63.shape
        rw [if_neg (by omega), if_neg (by omega), if_neg (by omega), if_neg (by omega), if_neg (by omega), if_neg (by omega), if_neg (by omega), if_neg (by omega)]
      rw [this] at h
      cases h
/-- calls to the list's end, from a place -/
inductive Calls (l : List Nat) : Nat → List Sq63.Call → Prop
  | nil : Calls l l.length []
  | cons {n n' : Nat} {x : Sq63.Call} {xs : List Sq63.Call} : CallAt l n x n' → n < n' → n' ≤ l.length → Calls l n' xs → Calls l n (x :: xs)
theorem calls_at {l : List Nat} : ∀ (f n : Nat) (cs : List (List (List Int))), n ≤ l.length → PyFlat.calls PySq63.shape f ((Z l).drop n) = some cs → ∃ xs, Calls l n xs ∧ (cs.map PySq63.whole).map Sq63Neutral.callOf = xs.map some
  | f, n, cs, hn, h => by
    by_cases e : n = l.length
    · subst e
      have : (Z l).drop l.length = [] := List.drop_eq_nil_of_le (by simp)
      rw [this] at h
      have hc : cs = [] := by
        cases f with
        | zero => exact (Option.some.inj h).symm
        | succ f => exact (Option.some.inj h).symm
      subst hc
      exact ⟨[], .nil, rfl⟩
    · cases q : (Z l).drop n with
      | nil =>
        have := List.drop_eq_nil_iff.mp q
        rw [List.length_map] at this
        omega
      | cons p r =>
        rw [q] at h
        cases f with
        | zero => cases h
        | succ f =>
          unfold PyFlat.calls at h
          rw [← q] at h
          cases hc : PyFlat.call PySq63.shape ((Z l).drop n) with
          | none => rw [hc] at h; cases h
          | some ct =>
            obtain ⟨c, t⟩ := ct
            rw [hc] at h
            obtain ⟨x, n', h1, rfl, h2, h3, h4⟩ := call_at hc
            simp only at h
            cases hr : PyFlat.calls PySq63.shape f ((Z l).drop n') with
            | none => rw [hr] at h; cases h
            | some cs' =>
              rw [hr] at h
              obtain ⟨xs, h5, h6⟩ := calls_at f n' cs' h4 hr
              have h := (Option.some.inj h).symm
              subst h
              exact ⟨x :: xs, .cons h1 h3 h4 h5, by rw [List.map_cons, List.map_cons, List.map_cons, h2, h6]⟩
/-- what is answered to calls, one behind another -/
def runs (h : Sq63.House) : List Sq63.Call → List Int
  | [] => []
  | x :: xs => ((((h.step x).2.value :: (h.step x).2.out).length : Nat) : Int) :: ((h.step x).2.value :: (h.step x).2.out) ++ runs (h.step x).1 xs
theorem played_runs : ∀ (cs : List (List (List Int))) (xs : List Sq63.Call) (h : Sq63.House), cs.map Sq63Neutral.callOf = xs.map some → PyFlat.told (PyFlat.played Sq63Neutral.step h cs) = runs h xs
  | [], [], _, _ => rfl
  | [], _ :: _, _, e => by cases e
  | _ :: _, [], _, e => by cases e
  | c :: cs, x :: xs, h, e => by
    rw [List.map_cons, List.map_cons] at e
    obtain ⟨e1, e2⟩ := List.cons.inj e
    have hs : Sq63Neutral.step h c = ((h.step x).1, (h.step x).2.value :: (h.step x).2.out) := by
      unfold Sq63Neutral.step
      rw [e1]
    unfold PyFlat.played PyFlat.told
    rw [List.flatMap_cons, hs]
    have ih := played_runs cs xs (h.step x).1 e2
    unfold PyFlat.told at ih
    rw [ih]
    rfl
end Nu
end
/-! # NuAsk -/
section
set_option linter.all false
namespace Nu
/-- rows that are not too long -/
def CallOk : Sq63.Call → Prop
  | .begin_ _ r0 r1 => r0.length ≤ 300 ∧ r1.length ≤ 20
  | .there r => r.length ≤ 400
  | .way r => r.length ≤ 20
  | _ => True
theorem within_lo {lo hi z : Int} (h : PyInside.within lo hi z = true) (hl : 0 ≤ lo) : 0 ≤ z := by
  unfold PyInside.within at h
  rw [Bool.and_eq_true] at h
  have := of_decide_eq_true h.1
  omega
theorem each_nn : ∀ {b : List (Int × Int)} {xs : List Int}, (∀ q, q ∈ b → 0 ≤ q.1) → b.length = xs.length → PyInside.each b xs = true → ∀ x, x ∈ xs → 0 ≤ x
  | [], [], _, _, _, x, hx => by simp at hx
  | [], _ :: _, _, hl, _, _, _ => by simp at hl
  | _ :: _, [], _, hl, _, _, _ => by simp at hl
  | (lo, hi) :: b, y :: xs, hb, hl, h, x, hx => by
    unfold PyInside.each at h
    rw [Bool.and_eq_true] at h
    rcases List.mem_cons.mp hx with rfl | hx
    · exact within_lo h.1 (hb (lo, hi) (by simp))
    · exact each_nn (fun q hq => hb q (by simp [hq])) (by simpa using hl) h.2 x hx
theorem lists_nn : ∀ {b : List (Int × Int × Nat × Nat)} {rs : List (List Int)}, (∀ q, q ∈ b → 0 ≤ q.1) → b.length = rs.length → PyInside.lists b rs = true → ∀ r, r ∈ rs → ∀ z, z ∈ r → 0 ≤ z
  | [], [], _, _, _, r, hr, _, _ => by simp at hr
  | [], _ :: _, _, hl, _, _, _, _, _ => by simp at hl
  | _ :: _, [], _, hl, _, _, _, _, _ => by simp at hl
  | (lo, hi, mn, mx) :: b, y :: rs, hb, hl, h, r, hr, z, hz => by
    unfold PyInside.lists at h
    rw [Bool.and_eq_true, Bool.and_eq_true] at h
    rcases List.mem_cons.mp hr with rfl | hr
    · exact within_lo (List.all_eq_true.mp h.1.2 z hz) (hb (lo, hi, mn, mx) (by simp))
    · exact lists_nn (fun q hq => hb q (by simp [hq])) (by simpa using hl) h.2 r hr z hz
theorem shape_bound {p : Int} {n k : Nat} (h : PySq63.shape p = some (n, k)) : 0 ≤ p ∧ (PySq63.bound p).1.length = n ∧ (PySq63.bound p).2.length = k ∧ (∀ q, q ∈ (PySq63.bound p).1 → 0 ≤ q.1) ∧ ∀ q, q ∈ (PySq63.bound p).2 → 0 ≤ q.1 := by
  unfold PySq63.shape at h
  by_cases h1 : p = 1
  · subst h1; rw [if_pos rfl] at h; cases h
    exact ⟨by decide, rfl, rfl, by decide, by decide⟩
  rw [if_neg h1] at h
  by_cases h2 : p = 2
  · subst h2; rw [if_pos rfl] at h; cases h
    exact ⟨by decide, rfl, rfl, by decide, by decide⟩
  rw [if_neg h2] at h
  by_cases h3 : p = 3
  · subst h3; rw [if_pos rfl] at h; cases h
    exact ⟨by decide, rfl, rfl, by decide, by decide⟩
  rw [if_neg h3] at h
  by_cases h4 : p = 4
  · subst h4; rw [if_pos rfl] at h; cases h
    exact ⟨by decide, rfl, rfl, by decide, by decide⟩
  rw [if_neg h4] at h
  by_cases h5 : p = 5
  · subst h5; rw [if_pos rfl] at h; cases h
    exact ⟨by decide, rfl, rfl, by decide, by decide⟩
  rw [if_neg h5] at h
  by_cases h6 : p = 6
  · subst h6; rw [if_pos rfl] at h; cases h
    exact ⟨by decide, rfl, rfl, by decide, by decide⟩
  rw [if_neg h6] at h
  by_cases h7 : p = 7
  · subst h7; rw [if_pos rfl] at h; cases h
    exact ⟨by decide, rfl, rfl, by decide, by decide⟩
  rw [if_neg h7] at h
  by_cases h8 : p = 8
  · subst h8; rw [if_pos rfl] at h; cases h
    exact ⟨by decide, rfl, rfl, by decide, by decide⟩
  rw [if_neg h8] at h
  cases h
theorem row_split {L x s : List Int} (h : PyFlat.row L = some (x, s)) : ∃ k, L = k :: (x ++ s) ∧ 0 ≤ k := by
  cases L with
  | nil => cases h
  | cons k r =>
    unfold PyFlat.row at h
    simp only at h
    by_cases c : 0 ≤ k ∧ k.toNat ≤ r.length
    · rw [if_pos c] at h
      obtain ⟨h1, h2⟩ := Prod.mk.inj (Option.some.inj h)
      refine ⟨k, ?_, c.1⟩
      rw [← h1, ← h2, List.take_append_drop]
    · rw [if_neg c] at h; cases h
theorem rows_split : ∀ {k : Nat} {r : List Int} {xs : List (List Int)} {t : List Int}, PyFlat.rows k r = some (xs, t) → xs.length = k ∧ ((∀ x, x ∈ xs → ∀ z, z ∈ x → 0 ≤ z) → (∀ z, z ∈ t → 0 ≤ z) → ∀ z, z ∈ r → 0 ≤ z)
  | 0, r, xs, t, h => by
    obtain ⟨rfl, rfl⟩ := Prod.mk.inj (Option.some.inj h)
    exact ⟨rfl, fun _ h z hz => h z hz⟩
  | k + 1, r, xs, t, h => by
    unfold PyFlat.rows at h
    cases h0 : PyFlat.row r with
    | none => rw [h0] at h; cases h
    | some x =>
      obtain ⟨x, s⟩ := x
      rw [h0] at h
      simp only at h
      cases h1 : PyFlat.rows k s with
      | none => rw [h1] at h; cases h
      | some y =>
        obtain ⟨ys, t'⟩ := y
        rw [h1] at h
        obtain ⟨rfl, rfl⟩ := Prod.mk.inj (Option.some.inj h)
        obtain ⟨e1, e2⟩ := rows_split h1
        obtain ⟨c, rfl, hc⟩ := row_split h0
        refine ⟨by rw [List.length_cons, e1], fun hx ht z hz => ?_⟩
        rcases List.mem_cons.mp hz with rfl | hz
        · exact hc
        · rcases List.mem_append.mp hz with hz | hz
          · exact hx x (by simp) z hz
          · exact e2 (fun y hy => hx y (by simp [hy])) ht z hz
theorem call_nn {L t : List Int} {c : List (List Int)} (h : PyFlat.call PySq63.shape L = some (c, t)) (hb : PyInside.call PySq63.bound c = true) (ht : ∀ z, z ∈ t → 0 ≤ z) : ∀ z, z ∈ L → 0 ≤ z := by
  cases L with
  | nil => cases h
  | cons p r =>
    unfold PyFlat.call at h
    simp only at h
    cases hs : PySq63.shape p with
    | none => rw [hs] at h; cases h
    | some nk =>
      obtain ⟨n, k⟩ := nk
      rw [hs] at h
      simp only at h
      by_cases c1 : r.length < n
      · rw [if_pos c1] at h; cases h
      · rw [if_neg c1] at h
        cases hr : PyFlat.rows k (r.drop n) with
        | none => rw [hr] at h; cases h
        | some y =>
          obtain ⟨ys, t'⟩ := y
          rw [hr] at h
          obtain ⟨rfl, rfl⟩ := Prod.mk.inj (Option.some.inj h)
          obtain ⟨h1, h2, h3, h4, h5⟩ := shape_bound hs
          obtain ⟨e1, e2⟩ := rows_split hr
          unfold PyInside.call at hb
          simp only [Bool.and_eq_true] at hb
          have n1 := each_nn h4 (by rw [h2, List.length_take]; omega) hb.1
          have n2 := e2 (lists_nn h5 (by rw [h3, e1]) hb.2) ht
          intro z hz
          rcases List.mem_cons.mp hz with rfl | hz
          · exact h1
          · rw [← List.take_append_drop n r] at hz
            rcases List.mem_append.mp hz with hz | hz
            · exact n1 z hz
            · exact n2 z hz
theorem calls_nn : ∀ (f : Nat) (L : List Int) (cs : List (List (List Int))), PyFlat.calls PySq63.shape f L = some cs → PyInside.calls PySq63.bound cs = true → ∀ z, z ∈ L → 0 ≤ z
  | _, [], _, _, _ => by simp
  | 0, _ :: _, _, h, _ => by cases h
  | f + 1, p :: r, cs, h, hb => by
    unfold PyFlat.calls at h
    cases hc : PyFlat.call PySq63.shape (p :: r) with
    | none => rw [hc] at h; cases h
    | some ct =>
      obtain ⟨c, t⟩ := ct
      rw [hc] at h
      simp only at h
      cases hr : PyFlat.calls PySq63.shape f t with
      | none => rw [hr] at h; cases h
      | some cs' =>
        rw [hr] at h
        have h := (Option.some.inj h).symm
        subst h
        unfold PyInside.calls at hb
        rw [List.all_cons, Bool.and_eq_true] at hb
        exact call_nn hc hb.1 (calls_nn f t cs' hr hb.2)
theorem whole_id (c : List (List Int)) : PySq63.whole c = c := by
  unfold PySq63.whole
  split <;> rfl
theorem call_ok {c : List (List Int)} {x : Sq63.Call} (h : Sq63Neutral.callOf c = some x) (hb : PyInside.call PySq63.bound c = true) : CallOk x := by
  unfold Sq63Neutral.callOf at h
  simp only at h
  split at h
  · rename_i a r1 r2
    cases h
    have hb : PyInside.each [(0, 18446744073709551615)] [a] = true ∧ PyInside.lists [(0, 18446744073709551615, 0, 300), (0, 18446744073709551615, 0, 20)] [r1, r2] = true := by
      have : (PyInside.each [(0, 18446744073709551615)] [a] && PyInside.lists [(0, 18446744073709551615, 0, 300), (0, 18446744073709551615, 0, 20)] [r1, r2]) = true := hb
      rwa [Bool.and_eq_true] at this
    have h2 := hb.2
    simp only [PyInside.lists, Bool.and_eq_true, decide_eq_true_eq] at h2
    show (r1.map _).length ≤ 300 ∧ (r2.map _).length ≤ 20
    rw [List.length_map, List.length_map]
    omega
  · cases h; trivial
  · cases h; trivial
  · cases h; trivial
  · cases h; trivial
  · rename_i r1
    cases h
    have h2 : (true && PyInside.lists [(0, 18446744073709551615, 0, 400)] [r1]) = true := hb
    simp only [PyInside.lists, Bool.and_eq_true, decide_eq_true_eq, Bool.true_and] at h2
    show (r1.map _).length ≤ 400
    rw [List.length_map]
    omega
  · cases h; trivial
  · rename_i r1
    cases h
    have h2 : (true && PyInside.lists [(0, 18446744073709551615, 0, 20)] [r1]) = true := hb
    simp only [PyInside.lists, Bool.and_eq_true, decide_eq_true_eq, Bool.true_and] at h2
    show (r1.map _).length ≤ 20
    rw [List.length_map]
    omega
  · cases h
theorem asked_calls {ns : List Int} (h : PySq63.answers_asked ns = true) : ∃ (l : List Nat) (xs : List Sq63.Call), ns = Z l ∧ Calls l 0 xs ∧ (∀ x, x ∈ xs → CallOk x) ∧ PySq63.answers ns = runs Sq63.fresh xs ∧ (runs Sq63.fresh xs).length ≤ 10000000 := by
  unfold PySq63.answers_asked at h
  cases hc : PyFlat.calls PySq63.shape ns.length ns with
  | none => rw [hc] at h; cases h
  | some raw =>
    rw [hc] at h
    simp only [Bool.and_eq_true] at h
    obtain ⟨⟨⟨⟨_, _⟩, hb⟩, _⟩, hs⟩ := h
    have nn := calls_nn _ ns raw hc hb
    have e : ns = Z (ns.map Int.toNat) := by
      rw [Z, List.map_map]
      refine ((List.map_congr_left fun z hz => ?_).trans (List.map_id' ns)).symm
      have := nn z hz
      show ((z.toNat : Nat) : Int) = z
      omega
    obtain ⟨xs, h1, h2⟩ := calls_at (l := ns.map Int.toNat) ns.length 0 raw (Nat.zero_le _) (by rw [List.drop_zero, ← e]; exact hc)
    have ha : PySq63.answers ns = runs Sq63.fresh xs := by
      unfold PySq63.answers PySq63.calls
      rw [hc]
      exact played_runs _ xs _ h2
    refine ⟨ns.map Int.toNat, xs, e, h1, fun x hx => ?_, ha, ?_⟩
    · have hx' : some x ∈ xs.map some := List.mem_map.mpr ⟨x, hx, rfl⟩
      rw [← h2, List.map_map] at hx'
      obtain ⟨c, hcm, hce⟩ := List.mem_map.mp hx'
      have hce : Sq63Neutral.callOf (PySq63.whole c) = some x := hce
      rw [whole_id] at hce
      exact call_ok hce (List.all_eq_true.mp hb c hcm)
    · rw [← ha]
      exact of_decide_eq_true hs
end Nu
end
/-! # NuR9 -/
section
set_option Elab.async false
set_option maxRecDepth 100000
set_option maxHeartbeats 4000000
set_option linter.all false
namespace NuR
open PySem PySem.Spec PyProof.Rows L2
section
variable {X : Cx} {pins : List (Addr × Obj)} {σ : L2.St} {H : Hp} {s : Shared}
/-- the heap without an address -/
def offH (a : Addr) (H : Hp) : Hp := fun b => if b = a then none else H b
theorem off_same {a : Addr} {H : Hp} : offH a H a = none := if_pos rfl
theorem off_ne {a b : Addr} {H : Hp} (h : b ≠ a) : offH a H b = H b := if_neg h
theorem off_at {a b : Addr} {H : Hp} {o : HO} (h : offH a H b = some o) : b ≠ a ∧ H b = some o := by
  by_cases e : b = a
  · rw [e, off_same] at h; cases h
  · rw [off_ne e] at h; exact ⟨e, h⟩
theorem not_fs (I : Inv X pins σ H s) {a : Addr} {o : HO} (ha : H a = some o) : a ∉ X.fs := fun hb => by
  have h0 := I.ok.frf a hb
  have hx : a ∉ X.ex := fun q => I.ok.exfs a q hb
  obtain ⟨_, ob, e, _⟩ := I.ok.funs.mem hb
  have := I.base.free a _ e h0 hx
  rw [this] at ha
  cases ha
/-- a list set aside -/
theorem Inv.aside (I : Inv X pins σ H s) {a : Addr} {xs : List V} (ha : H a = some (.lst xs)) : ∃ ob, s.heap.get? a = some ob ∧ Inv X ((a, ob) :: pins) σ (offH a H) s := by
  obtain ⟨z, its, n, r, e⟩ := I.hok a _ ha
  refine ⟨_, e, ⟨I.ok, I.os, I.bare, ⟨I.base.keep, I.base.slot, fun b o h1 h2 h3 => ?_, I.base.there, fun b ys h => ?_, fun b o u h => ?_, fun b ps h => ?_⟩, I.loc, I.cell, ?_, fun x c h => ?_, fun p hp => ?_, fun b o hb => ?_, I.len⟩⟩
  · by_cases q : b = a
    · rw [q]; exact off_same
    · rw [off_ne q]; exact I.base.free b o h1 h2 h3
  · have := I.base.tups b ys h
    rw [off_ne fun q => by rw [q, ha] at this; cases this]
    exact this
  · have := I.base.frzs b o u h
    rw [off_ne fun q => by rw [q, ha] at this; cases this]
    exact this
  · obtain ⟨more, this⟩ := I.base.tbls b ps h
    refine ⟨more, ?_⟩
    rw [off_ne fun q => by rw [q, ha] at this; cases this]
    exact this
  · by_cases q : X.env.locals = a
    · rw [q]; exact off_same
    · rw [off_ne q]; exact I.free
  · by_cases q : c = a
    · rw [q]; exact off_same
    · rw [off_ne q]; exact I.freeC x c h
  · have old : p ∈ X.pn ++ pins → s.heap.get? p.1 = some p.2 ∧ offH a H p.1 = none ∧ p.1 ≠ X.env.locals ∧ p.1 ∉ X.fs ∧ ∀ v, p.2.data ≠ .cell v := fun hp => by
      obtain ⟨h1, h2, h3, h4, h5⟩ := I.pin p hp
      refine ⟨h1, ?_, h3, h4, h5⟩
      by_cases q : p.1 = a
      · rw [q]; exact off_same
      · rw [off_ne q]; exact h2
    rcases List.mem_append.mp hp with h | h
    · exact old (List.mem_append_left _ h)
    · rcases List.mem_cons.mp h with h | h
      · subst h
        refine ⟨e, off_same, fun q => ?_, not_fs I ha, fun v q => by cases q⟩
        have := I.free
        rw [← show a = X.env.locals from q, ha] at this
        cases this
      · exact old (List.mem_append_right _ h)
  · obtain ⟨hne, hb⟩ := off_at hb
    refine (I.hok b o hb).stay (fun _ _ _ q => q) (fun c hc => ?_) (fun c ys hc => ?_)
    · rw [off_ne fun q => by rw [q, ha] at hc; cases hc]; exact hc
    · rw [off_ne fun q => by rw [q, ha] at hc; cases hc]; exact hc
/-- and back again -/
theorem Inv.back {s' : Shared} {H' : Hp} {a : Addr} {xs : List V} {ob : Obj} (I : Inv X pins σ H s) (ha : H a = some (.lst xs)) (e : s.heap.get? a = some ob) (J : Inv X ((a, ob) :: pins) σ H' s') : H' a = none ∧ Inv X pins σ (upd H' a (.lst xs)) s' := by
  obtain ⟨e', hn, _⟩ := J.pin (a, ob) (List.mem_append_right _ (by simp))
  have hn : H' a = none := hn
  have e' : s'.heap.get? a = some ob := e'
  refine ⟨hn, ⟨J.ok, J.os, J.bare, ⟨J.base.keep, J.base.slot, fun b o h1 h2 h3 => ?_, J.base.there, fun b ys h => ?_, fun b o u h => ?_, fun b ps h => ?_⟩, J.loc, J.cell, ?_, fun x c h => ?_, fun p hp => ?_, fun b o hb => ?_, J.len⟩⟩
  · rw [upd_ne fun q => by
      have := I.base.free b o h1 h2 h3
      rw [q, ha] at this
      cases this]
    exact J.base.free b o h1 h2 h3
  · have := J.base.tups b ys h
    rw [upd_ne fun q => by rw [q, hn] at this; cases this]
    exact this
  · have := J.base.frzs b o u h
    rw [upd_ne fun q => by rw [q, hn] at this; cases this]
    exact this
  · obtain ⟨more, this⟩ := J.base.tbls b ps h
    refine ⟨more, ?_⟩
    rw [upd_ne fun q => by rw [q, hn] at this; cases this]
    exact this
  · rw [upd_ne fun q => by
      have := I.free
      rw [q, ha] at this
      cases this]
    exact J.free
  · rw [upd_ne fun q => by
      have := I.freeC x c h
      rw [q, ha] at this
      cases this]
    exact J.freeC x c h
  · obtain ⟨h1, h2, h3, h4, h5⟩ := J.pin p (by
      rcases List.mem_append.mp hp with h | h
      · exact List.mem_append_left _ h
      · exact List.mem_append_right _ (List.mem_cons_of_mem _ h))
    refine ⟨h1, ?_, h3, h4, h5⟩
    rw [upd_ne fun q => by
      have := (I.pin p hp).2.1
      rw [q, ha] at this
      cases this]
    exact h2
  · by_cases q : b = a
    · subst q
      rw [upd_same] at hb
      have hb := Option.some.inj hb
      subst hb
      obtain ⟨z, its, n, r, e2⟩ := I.hok b _ ha
      rw [e] at e2
      have e2 := Option.some.inj e2
      subst e2
      exact ⟨z, its, n, r, e'⟩
    · rw [upd_ne q] at hb
      refine (J.hok b o hb).stay (fun _ _ _ q => q) (fun c hc => ?_) (fun c ys hc => ?_)
      · rw [upd_ne fun q => by rw [q, hn] at hc; cases hc]; exact hc
      · rw [upd_ne fun q => by rw [q, hn] at hc; cases hc]; exact hc
/-- an expression, with a list set aside meanwhile -/
def tAside (te : TE) : TE := fun σ H Q => ∃ (a : Addr) (xs : List V), H a = some (.lst xs) ∧ te σ (offH a H) fun v H' => H' a = none → Q v (upd H' a (.lst xs))
theorem pe_aside {e : Expr} {te : TE} (h : PE X e te) : PE X e (tAside te) := by
  refine ⟨fun pins s σ H Q I q => ?_⟩
  obtain ⟨a, xs, ha, q⟩ := q
  obtain ⟨ob, eo, J⟩ := Inv.aside I ha
  refine thn (h.run _ s σ _ _ J q) fun u s' ⟨v, H', J', r, q'⟩ => ?_
  obtain ⟨hn, I'⟩ := Inv.back I ha eo J'
  exact ⟨v, _, I', r, q' hn⟩
end
end NuR
end
/-! # NuP24 -/
section
set_option Elab.async false
set_option maxRecDepth 100000
set_option maxHeartbeats 4000000
set_option linter.all false
namespace NuP
open PySem PySem.Spec PyProof.Rows L2
open Sq63 (Net Places Transition Unfolding House)
open NuR (offH off_same off_ne off_at)
variable {P : Program} {w : World} {K : PySem.W.Frag} {mg : Str → Option Value} {base : Heap}
open Nu (CallOk)
def ansOf (h : House) (x : Sq63.Call) : List Int := (h.step x).2.value :: (h.step x).2.out
def spNxt (c : Cs) (K : PySem.W.Frag) : Sp := fun vs H Q _ => ∃ (x rd a : Addr) (h : House) (l : List Nat) (n n' : Nat) (cl : Sq63.Call), vs = [.ref x, .ref rd] ∧ LineAt c H x h ∧ RdAt c.R H rd a n ∧ SqL K H a (nats l) ∧ Nu.CallAt l n cl n' ∧ CallOk cl ∧
  ∀ (H' : Hp) (p : Addr), Keep [x, rd] H H' → LineAt c H' x (h.step cl).1 → RdAt c.R H' rd a n' → H p = none → IntsAt H' p (ansOf h cl) → Q (.ref p) H'
abbrev sAns : Stmt := top 47
abbrev nAns : List Str := ["calls", "line", "reader", "told", "answer"]
theorem scAns : FnScope nAns ["calls"] (defScope sAns) := ⟨rfl, rfl, rfl, by decide +kernel, rfl, by decide +kernel, by decide +kernel⟩
def spAns (K : PySem.W.Frag) : Sp := fun vs H Q _ => ∃ (a : Addr) (l : List Nat) (xs : List Sq63.Call), vs = [.ref a] ∧ SqL K H a (nats l) ∧ Nu.Calls l 0 xs ∧ (∀ x, x ∈ xs → CallOk x) ∧ (Nu.runs Sq63.fresh xs).length ≤ 10000000 ∧
  ∀ (H' : Hp) (p : Addr), Same H H' → IntsAt H' p (Nu.runs Sq63.fresh xs) → Q (.ref p) H'
/-- the line stays where only the reader changes -/
theorem LineAt.keepR {c : Cs} {H H' : Hp} {x rd C d : Addr} {fs : List (Str × V)} {h : House} (L : LineAt c H x h) (k : Keep [rd] H H') (hr : H rd = some (.ins C d fs)) (hf : fs.map (·.1) = rdN) : LineAt c H' x h := by
  obtain ⟨dx, ux, l, B, wv, h1, h2, h3, h4⟩ := L.ex
  refine ⟨⟨dx, ux, l, B, wv, k _ _ h1 fun e => ?_, h2.keepX k hr (by rw [hf]; decide +kernel), h3, h4.keepI k hr⟩, L.fit, L.unf⟩
  rw [List.mem_singleton.mp e, hr] at h1
  cases h1
  have : lN = rdN := hf
  revert this
  decide +kernel
/-- between two turns -/
def IA (c : Cs) (K : PySem.W.Frag) (a : Addr) (l : List Nat) (tot : List Int) (H : Hp) (m : Nat) (σ : L2.St) (H' : Hp) : Prop := ∃ (x rd T : Addr) (n : Nat) (h : House) (xs : List Sq63.Call) (acc : List Int) (v4 : Option V), σ = [some (.ref a), some (.ref x), some (.ref rd), some (.ref T), v4] ∧ Same H H' ∧ H x = none ∧ H rd = none ∧ H T = none ∧
  LineAt c (offH T H') x h ∧ RdAt c.R (offH T H') rd a n ∧ SqL K (offH T H') a (nats l) ∧ Nu.Calls l n xs ∧ (∀ x, x ∈ xs → CallOk x) ∧ IntsAt H' T acc ∧ acc ++ Nu.runs h xs = tot ∧ m = xs.length
theorem off_sub {a : Addr} {H : Hp} : Same (offH a H) H := fun _ _ h => (off_at h).2
theorem off_new {a : Addr} {H : Hp} {o : HO} (h : H a = none) : Same H (offH a (upd H a o)) := fun b o' e => by
  have hne : b ≠ a := fun q => by rw [q, h] at e; cases e
  rw [off_ne hne, upd_ne hne]
  exact e
theorem off_upd {a : Addr} {H : Hp} {o : HO} : Same (offH a H) (offH a (upd H a o)) := fun b o' e => by
  obtain ⟨hne, e⟩ := off_at e
  rw [off_ne hne, upd_ne hne]
  exact e
theorem off_mono {a : Addr} {H H' : Hp} (s : Same H H') : Same (offH a H) (offH a H') := fun b o' e => by
  obtain ⟨hne, e⟩ := off_at e
  rw [off_ne hne]
  exact s _ _ e
theorem ok_ans {c : Cs} {f fL fR fM fN : Addr} {fd fdL fdR fdM fdN : FuncData} (F : Fun K "answers" "answers" sAns f fd) (TL : ClsT K mg "Line" c.L lN) (TR : ClsT K mg "RowReader" c.R rdN) (gLen : mg "len" = none)
    (GL : FnOk P w K mg base CX0 7 fL fdL ["self"] (spLin c)) (bL : Binds K fdL ["self"] []) (mL : Mk K c.L fL)
    (GR : FnOk P w K mg base CX0 1 fR fdR ["self", "numbers"] (spRdI c.R)) (bR : Binds K fdR ["self", "numbers"] []) (mR : Mk K c.R fR)
    (GM : FnOk P w K mg base CX0 1 fM fdM ["self"] (spRdM c.R K)) (bM : Binds K fdM ["self"] []) (mM : Meth K c.R "has_more" fM)
    (GN : FnOk P w K mg base CX0 8 fN fdN ["line", "reader"] (spNxt c K)) (bN : Binds K fdN ["line", "reader"] []) (gN : mg "answer_next" = some (.ref fN)) (kN : PySem.W.keepIn K (.ref fN) = true) : FnOk P w K mg base CX0 9 f fd ["calls"] (spAns K) := by
  refine F.ok scAns (fun vs H Q E h => ?_) (fun cdv A outer s H vs Q E hr h => ?_)
  · obtain ⟨a, l, xs, rfl, _⟩ := h
    rfl
  · obtain ⟨a, l, xs, rfl, ha, hC, hO, htot, q⟩ := h
    have hr1 : Room 1 _ := hr.mono (by decide)
    have hr2 : Room 2 _ := hr.mono (by decide)
    refine ⟨_, pss_cons (ps_set (i := 1) scAns.nd rfl (Or.inl rfl) (pe_make0 mL GL hr rfl TL.gl bL .nil pass0))
      (pss_cons (ps_set (i := 2) scAns.nd rfl (Or.inl rfl) (pe_make mR GR hr2 rfl TR.gl bR .nil pass0 (pa_cons (pv 0) pa_nil)))
      (pss_cons (ps_set (i := 3) scAns.nd rfl (Or.inl rfl) (pe_lst pa_nil))
      (pss_cons (ps_while PassesOwn.never (pt_val (pe_meth0 (pv 2) TR.cl mM GM hr1 bM .nil pass0))
        (pss_cons (ps_set (i := 4) scAns.nd rfl (Or.inl rfl) (NuR.pe_aside (pe_call GN hr rfl gN kN bN .nil pass0 (pa_cons (pv 1) (pa_cons (pv 2) pa_nil)))))
        (pss_cons (ps_expr (pe_bm PySem.F.plainAttrs_list PySem.F.slot_list_append PySem.F.type_list_append mt_append (pv 3) (pa_cons (pe_callB call_len_seq (by rfl) gLen PySem.boot_len (pa_cons (pv 4) pa_nil)) pa_nil)))
        (pss_one (ps_expr (pe_bm PySem.F.plainAttrs_list PySem.F.slot_list_extend PySem.F.type_list_extend mt_extend (pv 3) (pa_cons (pv 4) pa_nil)))))))
      (pss_one (ps_ret (pv 3)))))), ?_⟩
    intro x dx nx ndx hne
    refine ⟨x, dx, rfl, upd_same, fun H1 LA k1 => ⟨rfl, ?_⟩⟩
    have s1 : Same H H1 := Same.made nx ndx fun b o e hb => k1 b o e (by simpa using hb)
    refine ⟨_, rfl, ?_⟩
    intro rd dr nrd ndr hne2
    refine ⟨rd, dr, a, rfl, upd_same, fun H2 RA k2 => ⟨rfl, ?_⟩⟩
    have s2 : Same H1 H2 := Same.made nrd ndr fun b o e hb => k2 b o e (by simpa using hb)
    refine ⟨by show 0 ≤ sizeLine; decide, fun T nT => ?_⟩
    have sT : Same H2 (offH T (upd H2 T (.lst []))) := off_new nT
    refine ⟨IA c K a l (Nu.runs Sq63.fresh xs) H, ⟨xs.length, x, rd, T, 0, Sq63.fresh, xs, [], none, rfl, (s1.trans s2).trans (snew (Same.refl _) nT), nx, s1.free nrd, (s1.trans s2).free nT, LA.same (s2.trans sT), ?_, ((s1.trans s2).trans sT).seq ha, hC, hO, upd_same, rfl, rfl⟩, ?_⟩
    · obtain ⟨d, hd⟩ := RA
      exact ⟨d, sT _ _ hd⟩
    rintro m σ H' ⟨x, rd, T, n, h, xs', acc, v4, rfl, sH, nx, nrd, nT, LA, RA, hS, hC, hO, gT, ht, rfl⟩
    obtain ⟨dr, hrd⟩ := id RA
    refine ⟨_, rfl, rd, dr, _, rfl, off_sub _ _ hrd, nolook (ns := rdN) rfl (by decide +kernel), rd, a, n, l, rfl, ⟨dr, off_sub _ _ hrd⟩, off_sub.seq hS, _, rfl, ?_⟩
    cases hC with
    | nil =>
      rw [show decide (l.length < l.length) = false from decide_eq_false (Nat.lt_irrefl _)]
      refine iteF ⟨_, rfl, q H' T sH ?_⟩
      have ht : acc ++ [] = Nu.runs Sq63.fresh xs := ht
      rw [List.append_nil] at ht
      rw [← ht]
      exact gT
    | @cons _ n' cl xs'' hAt hlt hle hC' =>
      rw [show decide (n < l.length) = true from decide_eq_true (by omega)]
      refine iteT ⟨fun σ' H2 => ∃ m', m' < (cl :: xs'').length ∧ IA c K a l (Nu.runs Sq63.fresh xs) H m' σ' H2, fun _ _ h => h, ?_⟩
      refine ⟨T, acc.map V.int, gT, _, rfl, _, rfl, x, rd, a, h, l, n, n', cl, rfl, LA, RA, hS, hAt, hO cl (by simp), fun H2 p k2 LA2 RA2 np gp hn => ?_⟩
      have eR : Nu.runs h (cl :: xs'') = ((((ansOf h cl).length : Nat) : Int) :: ansOf h cl) ++ Nu.runs (h.step cl).1 xs'' := rfl
      rw [eR] at ht
      have hlen := congrArg List.length ht
      rw [List.length_append, List.length_append, List.length_cons] at hlen
      have pT : p ≠ T := fun e => by
        rw [e] at gp
        rw [show H2 T = _ from gp] at hn
        cases hn
      have gp3 : ∀ o, upd H2 T o p = some (.lst ((ansOf h cl).map V.int)) := fun o => (upd_ne pT).trans gp
      have big : ∀ k, k ≤ 10000000 → k < sizeLine := fun k hk => Nat.lt_of_le_of_lt hk (by decide)
      refine ⟨_, rfl, .inl ⟨rfl, _, SqL.of upd_same⟩, _, rfl, p, _, rfl, .inl (SqL.of (gp3 _)), T, acc.map V.int, _, rfl, rfl, upd_same, ?_, ?_⟩
      · rw [List.length_map]
        exact big _ (by omega)
      rw [List.length_map]
      have up2 : ∀ o o', upd (upd H2 T o) T o' = upd H2 T o' := fun o o' => by
        funext b
        by_cases e : b = T
        · rw [e, upd_same, upd_same]
        · rw [upd_ne e, upd_ne e, upd_ne e]
      rw [up2]
      refine ⟨_, rfl, .inl ⟨rfl, _, SqL.of upd_same⟩, _, rfl, T, p, _, _, rfl, rfl, upd_same, gp3 _, ?_, ?_⟩
      · rw [List.length_append, List.length_map, List.length_map]
        show acc.length + 1 + _ ≤ _
        exact Nat.le_of_lt (big _ (by omega))
      rw [up2]
      have sF : ∀ o, Same H (upd H2 T o) := fun o b o' e => by
        have bT : b ≠ T := fun q => by rw [q, nT] at e; cases e
        rw [upd_ne bT]
        refine k2 _ _ (by rw [off_ne bT]; exact sH _ _ e) fun q => ?_
        rcases List.mem_cons.mp q with q | q
        · rw [q, nx] at e; cases e
        · rw [List.mem_singleton.mp q, nrd] at e; cases e
      obtain ⟨dx, ux, la, B, wv, hx, _⟩ := LA.ex
      have hS2 : SqL K H2 a (nats l) := keepSqI k2 hS fun b hb => by
        rcases List.mem_cons.mp hb with e | e
        · rw [e]; exact ⟨_, _, _, hx⟩
        · rw [List.mem_singleton.mp e]; exact ⟨_, _, _, hrd⟩
      refine ⟨xs''.length, Nat.lt_succ_self _, x, rd, T, n', (h.step cl).1, xs'', acc ++ ((((ansOf h cl).length : Nat) : Int) :: ansOf h cl), _, rfl, sF _, nx, nrd, nT, LA2.same (off_new hn), ?_, (off_new hn).seq hS2, hC', fun y hy => hO y (by simp [hy]), ?_, ?_, rfl⟩
      · obtain ⟨d, hd⟩ := RA2
        exact ⟨d, off_new hn _ _ hd⟩
      · show upd H2 T _ T = _
        rw [upd_same, List.map_append, List.map_cons, List.append_assoc]
        rfl
      · rw [List.append_assoc]
        exact ht
end NuP
end
/-! # NuP25 -/
section
set_option Elab.async false
set_option maxRecDepth 100000
set_option maxHeartbeats 4000000
set_option linter.all false
namespace NuP
open PySem PySem.W PySem.Spec PyProof.Rows L2
theorem spec_ok (K : PySem.W.Frag) (H : Hp) (xs : List V) (a : Codec.denoteAll PySem.Challenge.rw_netsunfolded_s01_answers.args) (h1 : OnlyF H) (h2 : Codec.withinAll PySem.Challenge.rw_netsunfolded_s01_answers.args a = true) (h3 : Codec.app PySem.Challenge.rw_netsunfolded_s01_answers.args PySem.Challenge.rw_netsunfolded_s01_answers.asked a = true)
    (h4 : DwAll K H xs (Codec.encAll PySem.Challenge.rw_netsunfolded_s01_answers.args a)) : spAns K xs H (fun v H' => Dw K H' v (PySem.Challenge.rw_netsunfolded_s01_answers.ret.enc (Codec.app PySem.Challenge.rw_netsunfolded_s01_answers.args PySem.Challenge.rw_netsunfolded_s01_answers.f a))) fun _ _ _ => False := by
  obtain ⟨ns, u⟩ := a
  have h3 : PySq63.answers_asked ns = true := h3
  have h4 : DwAll K H xs [WData.list (ns.map WData.int)] := h4
  show spAns K xs H (fun v H' => Dw K H' v (WData.list ((PySq63.answers ns).map WData.int))) _
  obtain ⟨l, cs, rfl, hC, hO, ha, hl⟩ := Nu.asked_calls h3
  cases h4 with
  | cons hd ht =>
    cases ht
    cases hd with
    | @lst a ys ds hs hy =>
      have ey : ys = nats l := by
        rw [nats_ints]
        have : ∀ (ns : List Int) (ys : List V), DwAll K H ys (ns.map WData.int) → ys = ns.map V.int := by
          intro ns
          induction ns with
          | nil => intro ys h; cases h; rfl
          | cons z ns ih =>
            intro ys h
            cases h with
            | cons h1 h2 =>
              cases h1
              rw [ih _ h2]
              rfl
        exact this _ _ hy
      subst ey
      refine ⟨a, l, cs, rfl, hs, hC, hO, hl, fun H' p s g => ?_⟩
      rw [ha]
      exact .lst (SqL.of g) (dw_ints _)
end NuP
end
/-! # NuTwo -/
section
set_option linter.all false
namespace Nu
open Sq63
variable {g : Net} {m0 : Places} {u : Unfolding}
theorem flat_nodup {f : Nat → List Nat} : ∀ {l : List Nat}, l.Nodup → (∀ e, e ∈ l → (f e).Nodup) → ((l.flatMap f).Nodup ↔ ∀ e, e ∈ l → ∀ d, d ∈ l → e ≠ d → ∀ c, c ∈ f e → c ∉ f d)
  | [], _, _ => by simp
  | a :: l, hn, hf => by
    rw [List.nodup_cons] at hn
    rw [List.flatMap_cons, List.nodup_append, flat_nodup hn.2 fun e he => hf e (by simp [he])]
    constructor
    · rintro ⟨h1, h2, h3⟩ e he d hd hne c hc hc2
      rcases List.mem_cons.mp he with rfl | he' <;> rcases List.mem_cons.mp hd with rfl | hd'
      · exact hne rfl
      · exact h3 c hc c (List.mem_flatMap.mpr ⟨d, hd', hc2⟩) rfl
      · exact h3 c hc2 c (List.mem_flatMap.mpr ⟨e, he', hc⟩) rfl
      · exact h2 e he' d hd' hne c hc hc2
    · intro h
      refine ⟨hf a (by simp), fun e he d hd => h e (by simp [he]) d (by simp [hd]), fun c hc c' hc' e => ?_⟩
      subst e
      obtain ⟨d, hd, hc2⟩ := List.mem_flatMap.mp hc'
      exact h a (by simp) d (by simp [hd]) (fun q => hn.1 (q ▸ hd)) c hc hc2
theorem nodup_clash (A : Good g m0 u) (N : NetOk g m0) {l : List Nat} (hl : l.Nodup) : (l.flatMap (usedOf u)).Nodup ↔ ¬ Clash u l l := by
  rw [flat_nodup hl fun e _ => used_nodup A N]
  constructor
  · rintro h ⟨e, he, d, hd, hne, c, h1, h2⟩
    exact h e he d hd hne c h1 h2
  · intro h e he d hd hne c h1 h2
    exact h ⟨e, he, d, hd, hne, c, h1, h2⟩
theorem dup_less : ∀ {l : List Int}, ¬ l.Nodup → ∃ M : List Int, (∀ j, j ∈ l → j ∈ M) ∧ M.length < l.length
  | [], h => absurd List.nodup_nil h
  | a :: l, h => by
    by_cases q : a ∈ l
    · refine ⟨l, fun j hj => ?_, by simp⟩
      rcases List.mem_cons.mp hj with rfl | hj
      · exact q
      · exact hj
    · obtain ⟨M, h1, h2⟩ := dup_less (l := l) fun z => h (List.nodup_cons.mpr ⟨q, z⟩)
      refine ⟨a :: M, fun j hj => ?_, by simp; exact h2⟩
      rcases List.mem_cons.mp hj with rfl | hj
      · simp
      · simp [h1 j hj]
/-- what two events need, told together -/
theorem two_clash (A : Good g m0 u) {e f : Nat} {x y : Event} (hx : u.events[e]? = some x) (hy : u.events[f]? = some y) {l : List Nat} (hl : ∀ z, z ∈ l ↔ z ∈ x.needs ∨ z ∈ y.needs) : Clash u l l ↔ Clash u x.needs y.needs := by
  have cx := (local_cfg A (List.getElem?_eq_some_iff.mp hx).1).cf
  have cy := (local_cfg A (List.getElem?_eq_some_iff.mp hy).1).cf
  rw [needsE_some hx] at cx
  rw [needsE_some hy] at cy
  constructor
  · rintro ⟨a, ha, b, hb, hne, c, h1, h2⟩
    rcases (hl a).mp ha with ha | ha <;> rcases (hl b).mp hb with hb | hb
    · exact absurd ⟨a, ha, b, hb, hne, c, h1, h2⟩ cx
    · exact ⟨a, ha, b, hb, hne, c, h1, h2⟩
    · exact ⟨b, hb, a, ha, Ne.symm hne, c, h2, h1⟩
    · exact absurd ⟨a, ha, b, hb, hne, c, h1, h2⟩ cy
  · rintro ⟨a, ha, b, hb, r⟩
    exact ⟨a, (hl a).mpr (Or.inl ha), b, (hl b).mpr (Or.inr hb), r⟩
end Nu
end
/-! # NuP26 -/
section
set_option Elab.async false
set_option maxRecDepth 100000
set_option maxHeartbeats 4000000
set_option linter.all false
namespace NuP
open PySem PySem.Spec PyProof.Rows L2
open Sq63 (Net Places Transition Unfolding House)
variable {P : Program} {w : World} {K : PySem.W.Frag} {mg : Str → Option Value} {base : Heap}
/-! ### used_by -/
abbrev sUby : Stmt := inClass (top 20) 5
abbrev nUby : List Str := ["self", "events", "used", "event"]
theorem scUby : FnScope nUby ["self", "events"] (defScope sUby) := ⟨rfl, rfl, rfl, by decide +kernel, rfl, by decide +kernel, by decide +kernel⟩
/-- the object at x has these events, and l is a list of some of them -/
structure EvsAt (CU CE : Addr) (K : PySem.W.Frag) (H : Hp) (x l : Addr) (ls : List Nat) (D : List EvD) : Prop where
  ex : ∃ (dx evs : Addr) (fs : List (Str × V)) (es : List Addr), H x = some (.ins CU dx fs) ∧ Has fs "events" (.ref evs) ∧ (∀ k, k ∉ uN → fs.lookup k = none) ∧ H evs = some (.lst (es.map V.ref)) ∧ AllAt (EvAt CE H) es D
  seq : SqL K H l (nats ls)
  len : ls.length ≤ 40
  use : ∀ d, d ∈ D → d.used.length ≤ 9
  lt : ∀ e, e ∈ ls → e < D.length
theorem EvsAt.flat {CU CE : Addr} {K : PySem.W.Frag} {H : Hp} {x l : Addr} {ls : List Nat} {D : List EvD} (E : EvsAt CU CE K H x l ls D) : ∀ i, ((ls.take i).flatMap (usedD D)).length ≤ 9 * i := by
  intro i
  induction i with
  | zero => simp
  | succ i ih =>
    cases h : ls[i]? with
    | none =>
      have : ls.length ≤ i := List.getElem?_eq_none_iff.mp h
      rw [List.take_of_length_le (by omega)]
      rw [List.take_of_length_le (by omega)] at ih
      omega
    | some e =>
      have hl := E.lt e (List.mem_of_getElem? h)
      have hu := E.use _ (List.getElem_mem hl)
      rw [take1 h, List.flatMap_append, List.length_append, List.flatMap_singleton, usedD_at (List.getElem?_eq_getElem hl)]
      omega
theorem EvsAt.same {CU CE : Addr} {K : PySem.W.Frag} {H H' : Hp} {x l : Addr} {ls : List Nat} {D : List EvD} (E : EvsAt CU CE K H x l ls D) (s : Same H H') : EvsAt CU CE K H' x l ls D := by
  obtain ⟨dx, evs, fs, es, h1, h2, h3, h4, h5⟩ := E.ex
  exact ⟨⟨dx, evs, fs, es, s _ _ h1, h2, h3, s _ _ h4, h5.mono fun a d _ h => EvAt.same h s⟩, s.seq E.seq, E.len, E.use, E.lt⟩
def spUby (CU CE : Addr) (K : PySem.W.Frag) : Sp := fun vs H Q _ => ∃ (x l : Addr) (ls : List Nat) (D : List EvD), vs = [.ref x, .ref l] ∧ EvsAt CU CE K H x l ls D ∧ ∀ H' p, Same H H' → H p = none → ListAt H' p (ls.flatMap (usedD D)) → Q (.ref p) H'
theorem ok_uby {CU CE f : Addr} {fd : FuncData} (F : Fun K "used_by" "Unfolding.used_by" sUby f fd) (TU : ClsT K mg "Unfolding" CU uN) (TE : ClsT K mg "Event" CE evN) : FnOk P w K mg base CX0 1 f fd ["self", "events"] (spUby CU CE K) := by
  refine F.ok scUby (fun vs H Q E h => ?_) (fun cdv A outer s H vs Q E hr h => ?_)
  · obtain ⟨x, l, ls, D, rfl, _⟩ := h
    rfl
  · obtain ⟨x, l, ls, D, rfl, EA, q⟩ := h
    obtain ⟨dx, evs, fs, es, hx, f2, _, ge, hE⟩ := EA.ex
    have hl := EA.seq
    refine ⟨_, pss_cons (ps_set (i := 2) scUby.nd rfl (Or.inl rfl) (pe_lst pa_nil))
      (pss_cons (ps_for PassesOwn.never rfl (pi_list (pv 1)) (pg_name (i := 3) scUby.nd rfl (Or.inl rfl))
        (pss_one (ps_expr (pe_bm PySem.F.plainAttrs_list PySem.F.slot_list_extend PySem.F.type_list_extend NuR.mt_extT (pv 2) (pa_cons (pe_fld (pe_ix ix_list (pe_fld (pv 0) rfl) (pv 3) (fun _ _ => rfl)) rfl) pa_nil)))))
      (pss_one (ps_ret (pv 2)))), ?_⟩
    refine ⟨by show 0 ≤ sizeLine; decide, fun p np => ?_⟩
    have s0 : ∀ o, Same H (upd H p o) := fun o => snew (Same.refl _) np
    refine ⟨_, rfl, l, rfl, ⟨_, (s0 _).seq hl⟩, for_list (K := K) (a := l) (xs := nats ls) (fun i σ H' => Same H H' ∧ (∃ v, σ = [some (.ref x), some (.ref l), some (.ref p), v]) ∧ ListAt H' p ((ls.take i).flatMap (usedD D))) ⟨s0 _, ⟨none, rfl⟩, upd_same⟩ (fun i σ H' _ h => h.1.seq hl) ?_ ?_⟩
    · rintro i y σ H' hi ⟨s1, ⟨v, rfl⟩, gp⟩
      obtain ⟨e, hn, rfl⟩ := nats_get hi
      have hil := (List.getElem?_eq_some_iff.mp hn).1
      have hel := EA.lt e (List.mem_of_getElem? hn)
      have hd := List.getElem?_eq_getElem hel
      obtain ⟨ea, hea, de, us, md, nd, mk, g1, g2, g3, g4, g5⟩ := hE.get hd
      have hu := EA.use _ (List.getElem_mem hel)
      have hfl := EA.flat i
      have h40 := EA.len
      refine ⟨_, rfl, .inl ⟨rfl, _, SqL.of gp⟩, _, rfl, x, CU, dx, fs, _, rfl, s1 _ _ hx, TU.cl, TU.no _ (by decide +kernel), f2, _, rfl, evs, _, (e : Int), V.ref ea, rfl, rfl, SqL.of (s1 _ _ ge), atI_nat (by rw [List.getElem?_map, hea]; rfl), ea, CE, de, _, _, rfl, s1 _ _ g1, TE.cl, TE.no _ (by decide +kernel), look (ns := evN) 1 rfl (by decide +kernel) rfl, p, us, _, _, rfl, rfl, gp, SqT.of (s1 _ _ g2), ?_, ?_⟩
      · rw [nats_len, nats_len]
        exact sz400 (by omega)
      · refine ⟨Same.upd' s1 np, ⟨_, rfl⟩, ?_⟩
        show upd H' p _ p = _
        rw [upd_same, take1 hn, List.flatMap_append, List.flatMap_singleton, usedD_at hd, nats_app]
    · rintro σ H' ⟨s1, ⟨v, rfl⟩, gp⟩
      rw [nats_len, List.take_length] at gp
      exact ⟨_, rfl, q H' p s1 np gp⟩
/-! ### is_clash_within -/
abbrev sCls : Stmt := inClass (top 20) 6
abbrev nCls : List Str := ["self", "events", "used"]
theorem scCls : FnScope nCls ["self", "events"] (defScope sCls) := ⟨rfl, rfl, rfl, by decide +kernel, rfl, by decide +kernel, by decide +kernel⟩
def spCls (CU CE : Addr) (K : PySem.W.Frag) : Sp := fun vs H Q _ => ∃ (x l : Addr) (ls : List Nat) (D : List EvD), vs = [.ref x, .ref l] ∧ EvsAt CU CE K H x l ls D ∧ ∀ H' b, Same H H' → (b = true ↔ ¬ (ls.flatMap (usedD D)).Nodup) → Q (.bl b) H'
theorem nats_nodup {l : List Nat} (h : (l.map Int.ofNat).Nodup) : l.Nodup := by
  rw [List.Nodup, List.pairwise_map] at h
  exact h.imp fun {a b} q e => q (by rw [e])
theorem ints_nodup {l : List Nat} (h : l.Nodup) : (l.map Int.ofNat).Nodup := by
  rw [List.Nodup, List.pairwise_map]
  exact h.imp fun {a b} q e => q (Int.ofNat.inj e)
theorem ok_cls {CU CE f fY : Addr} {fd fdY : FuncData} (F : Fun K "is_clash_within" "Unfolding.is_clash_within" sCls f fd) (TU : ClsT K mg "Unfolding" CU uN) (gLen : mg "len" = none) (gSet : mg "set" = none)
    (GY : FnOk P w K mg base CX0 1 fY fdY ["self", "events"] (spUby CU CE K)) (bY : Binds K fdY ["self", "events"] []) (mY : Meth K CU "used_by" fY) : FnOk P w K mg base CX0 2 f fd ["self", "events"] (spCls CU CE K) := by
  refine F.ok scCls (fun vs H Q E h => ?_) (fun cdv A outer s H vs Q E hr h => ?_)
  · obtain ⟨x, l, ls, D, rfl, _⟩ := h
    rfl
  · obtain ⟨x, l, ls, D, rfl, EA, q⟩ := h
    obtain ⟨dx, evs, fs, es, hx, f2, nof, ge, hE⟩ := EA.ex
    refine ⟨_, pss_cons (ps_set (i := 2) scCls.nd rfl (Or.inl rfl) (pe_meth (pv 0) TU.cl mY GY hr bY .nil pass0 (pa_cons (pv 1) pa_nil)))
      (pss_one (ps_ret (pe_cmpR op_lt (pe_callB NuR.cr_lenSet (by rfl) gLen PySem.boot_len (pa_cons (pe_callTy (NuR.cr_setM rfl) (by rfl) gSet (by decide +kernel) (pa_cons (pv 2) pa_nil)) pa_nil)) (pe_callB call_len_seq (by rfl) gLen PySem.boot_len (pa_cons (pv 2) pa_nil)) (nomark _)))), ?_⟩
    refine ⟨_, rfl, x, dx, fs, rfl, hx, nof _ (by decide +kernel), _, rfl, x, l, ls, D, rfl, EA, fun H1 p s1 np gp => ?_⟩
    have hfl := EA.flat ls.length
    have h40 := EA.len
    rw [List.take_length] at hfl
    refine ⟨_, rfl, p, (ls.flatMap (usedD D)).map Int.ofNat, (ls.flatMap (usedD D)).map Int.ofNat, rfl, SqL.of (by rw [show H1 p = _ from gp, nats_ints]), fun j hj => hj, ?_, fun p2 c n2 hc1 hc2 => ?_⟩
    · rw [List.length_map]
      exact Nat.lt_of_le_of_lt (show _ ≤ 361 by omega) (by decide)
    refine ⟨p2, _, c, rfl, upd_same, _, rfl, p, _, rfl, .inl (SqL.of ((snew (Same.refl _) n2) _ _ gp)), _, _, rfl, rfl, ?_⟩
    refine q _ _ (snew s1 n2) ?_
    rw [nats_len, decide_eq_true_iff]
    constructor
    · intro h nd
      have := hc2 _ (ints_nodup nd) fun j hj => hj
      rw [List.length_map] at this
      omega
    · intro h
      obtain ⟨M, h1, h2⟩ := Nu.dup_less (l := (ls.flatMap (usedD D)).map Int.ofNat) fun z => h (nats_nodup z)
      have := hc1 M h1
      rw [List.length_map] at h2
      omega
/-! ### the events of an unfolding -/
theorem UnfAt.evs {c : Cs} {l : Lay} {H : Hp} {x la : Addr} {g : Net} {m0 : Places} {u : Unfolding} {B ls : List Nat} (U : UnfAt c l H x g m0 u B) (O : UnfOk g m0 u B) (N : NetFit g m0) (hs : SqL K H la (nats ls)) (hr : ls.Pairwise (· < ·)) (hlt : ∀ e, e ∈ ls → e < u.events.length) : EvsAt c.U c.E K H x la ls (evD u) := by
  have e40 := O.e40
  refine ⟨⟨l.dx, l.evs, uF l, l.es, (wo_at U.ux).1, look (ns := uN) 1 rfl (by decide +kernel) rfl, fun k hk => nolook (ns := uN) rfl ?_, U.ue, U.uE.mono fun a d _ h => EvAt.same h wo_same⟩, hs, ?_, fun d hd => ?_, fun e he => by rw [evD_len]; exact hlt e he⟩
  · rw [List.any_eq_false]
    intro z hz q
    exact hk (by rw [← eq_of_beq q]; exact hz)
  · have := rise_len hr hlt
    omega
  · obtain ⟨e, he⟩ := List.mem_iff_getElem?.mp hd
    rw [evD_get] at he
    obtain ⟨ev, hev, rfl⟩ := Option.map_eq_some_iff.mp he
    exact used_len N O.good hev
theorem flat_used {u : Unfolding} (ls : List Nat) : ls.flatMap (usedD (evD u)) = ls.flatMap (Nu.usedOf u) := flatMap_congr' fun e _ => usedD_eq e
/-! ### can_be_at_once -/
abbrev sCan : Stmt := inClass (top 20) 7
abbrev nCan : List Str := ["self", "conditions", "needed"]
theorem scCan : FnScope nCan ["self", "conditions"] (defScope sCan) := ⟨rfl, rfl, rfl, by decide +kernel, rfl, by decide +kernel, by decide +kernel⟩
def spCan (c : Cs) (K : PySem.W.Frag) : Sp := fun vs H Q _ => ∃ (x la : Addr) (l : Lay) (g : Net) (m0 : Places) (u : Unfolding) (B ls : List Nat), vs = [.ref x, .ref la] ∧ UnfAt c l H x g m0 u B ∧ UnfOk g m0 u B ∧ NetFit g m0 ∧ SqL K H la (nats ls) ∧ ls.Pairwise (· < ·) ∧ (∀ z, z ∈ ls → z < u.conds.length) ∧
  ∀ H', Same H H' → Q (.bl (Sq63.together u ls)) H'
theorem ok_can {c : Cs} {f fN fC fY : Addr} {fd fdN fdC fdY : FuncData} (F : Fun K "can_be_at_once" "Unfolding.can_be_at_once" sCan f fd) (TU : ClsT K mg "Unfolding" c.U uN) (gLen : mg "len" = none) (gSet : mg "set" = none)
    (GN : FnOk P w K mg base CX0 1 fN fdN ["self", "conditions"] (spNed c.U c.C c.E K)) (bN : Binds K fdN ["self", "conditions"] []) (mN : Meth K c.U "needed_to_make" fN)
    (GC : FnOk P w K mg base CX0 2 fC fdC ["self", "events"] (spCls c.U c.E K)) (bC : Binds K fdC ["self", "events"] []) (mC : Meth K c.U "is_clash_within" fC)
    (GY : FnOk P w K mg base CX0 1 fY fdY ["self", "events"] (spUby c.U c.E K)) (bY : Binds K fdY ["self", "events"] []) (mY : Meth K c.U "used_by" fY) : FnOk P w K mg base CX0 3 f fd ["self", "conditions"] (spCan c K) := by
  refine F.ok scCan (fun vs H Q E h => ?_) (fun cdv A outer s H vs Q E hr h => ?_)
  · obtain ⟨x, la, l, g, m0, u, B, ls, rfl, _⟩ := h
    rfl
  · obtain ⟨x, la, l, g, m0, u, B, ls, rfl, U, O, N, hs, hrise, hlt, q⟩ := h
    have hr1 : Room 1 _ := hr.mono (by decide)
    refine ⟨_, pss_cons (ps_set (i := 2) scCan.nd rfl (Or.inl rfl) (pe_meth (pv 0) TU.cl mN GN hr1 bN .nil pass0 (pa_cons (pv 1) pa_nil)))
      (pss_cons (ps_if (pt_val (pe_meth (pv 0) TU.cl mC GC hr bC .nil pass0 (pa_cons (pv 2) pa_nil))) (pss_one (ps_ret pe_bl)) pss_nil)
      (pss_one (ps_ret (pe_cmpR op_eq (pe_callB NuR.cr_lenSet (by rfl) gLen PySem.boot_len (pa_cons (pe_op NuR.op_andS (pe_callTy (NuR.cr_setM rfl) (by rfl) gSet (by decide +kernel) (pa_cons (pe_meth (pv 0) TU.cl mY GY hr1 bY .nil pass0 (pa_cons (pv 2) pa_nil)) pa_nil)) (pe_callTy (NuR.cr_setM rfl) (by rfl) gSet (by decide +kernel) (pa_cons (pv 1) pa_nil))) pa_nil)) pe_int (nomark _))))), ?_⟩
    have fU : ∀ k i v, uN.findIdx? (· == k) = some i → (uF l)[i]?.map (·.2) = some v → Has (uF l) k v := fun k i v h1 h2 => look (ns := uN) i rfl h1 h2
    have nU : ∀ k, uN.any (· == k) = false → (uF l).lookup k = none := fun k h => nolook (ns := uN) rfl h
    have hx := (wo_at U.ux).1
    have e40 := O.e40
    have csz := O.csz
    have lsl := rise_len hrise hlt
    refine ⟨_, rfl, x, l.dx, uF l, rfl, hx, nU "needed_to_make" (by decide +kernel), _, rfl,
      x, l.dx, la, l.cds, l.evs, true, uF l, ls, Nu.needAll u ls, l.cs, l.es, cdD u, evD u, rfl, hx, fU "conditions" 2 _ (by decide +kernel) rfl, fU "events" 1 _ (by decide +kernel) rfl, hs, U.uc, U.ue, U.uC.mono (fun a d _ h => CdAt.same h wo_same), U.uE.mono (fun a d _ h => EvAt.same h wo_same), by omega, fun d hd => ?_, fun d hd => cd_made O.good (hlt d hd), Nu.needAll_rise _ _, ?_, fun z => needAll_iff, fun H1 p1 s1 n1 g1 => ?_⟩
    · have := evD_needs O.good d hd
      omega
    · have := needAll_len O.good ls
      omega
    have U1 := U.same s1
    have EA := U1.evs (K := K) O N (SqL.of g1) (Nu.needAll_rise u ls) fun e he => Nu.Grow.needAll_lt O.good he
    refine ⟨_, rfl, x, l.dx, uF l, rfl, s1 _ _ hx, nU "is_clash_within" (by decide +kernel), _, rfl, x, p1, _, _, rfl, EA, fun H2 b s2 hb => ⟨_, rfl, ?_⟩⟩
    rw [flat_used, Nu.nodup_clash O.good N.ok (Nu.rise_nodup (Nu.needAll_rise u ls)), Classical.not_not] at hb
    cases b with
    | true =>
      refine iteT ?_
      have e : Sq63.together u ls = false := by
        cases z : Sq63.together u ls with
        | false => rfl
        | true => exact absurd (hb.mp rfl) (Nu.together_iff.mp z).1
      have := q H2 (s1.trans s2)
      rw [e] at this
      exact this
    | false =>
      refine iteF ?_
      have ncl : ¬ Nu.Clash u (Nu.needAll u ls) (Nu.needAll u ls) := fun z => by
        have := hb.mpr z
        cases this
      have EA2 := EA.same s2
      have s02 := s1.trans s2
      refine ⟨_, rfl, x, l.dx, uF l, rfl, s02 _ _ hx, nU "used_by" (by decide +kernel), _, rfl, x, p1, _, _, rfl, EA2, fun H3 p3 s3 n3 g3 => ?_⟩
      rw [flat_used] at g3
      have hfl := EA.flat (Nu.needAll u ls).length
      rw [List.take_length, flat_used] at hfl
      have hnl := EA.len
      refine ⟨p3, ((Nu.needAll u ls).flatMap (Nu.usedOf u)).map Int.ofNat, ((Nu.needAll u ls).flatMap (Nu.usedOf u)).map Int.ofNat, rfl, SqL.of (by rw [show H3 p3 = _ from g3, nats_ints]), fun j hj => hj, ?_, fun p4 c4 n4 _ _ => ?_⟩
      · rw [List.length_map]
        exact Nat.lt_of_le_of_lt (show _ ≤ 361 by omega) (by decide)
      have s04 : ∀ o, Same H (upd H3 p4 o) := fun o => snew (s02.trans s3) n4
      refine ⟨_, rfl, la, ls.map Int.ofNat, ls.map Int.ofNat, rfl, by rw [← nats_ints]; exact (s04 _).seq hs, fun j hj => hj, ?_, fun p5 c5 n5 _ _ => ?_⟩
      · rw [List.length_map]
        exact Nat.lt_of_le_of_lt (show _ ≤ 400 by omega) (by decide)
      have ne45 : p4 ≠ p5 := ne_of_none upd_same n5
      refine ⟨p4, p5, _, _, c4, c5, rfl, rfl, ne45, (upd_ne ne45).trans upd_same, upd_same, fun p6 c6 n6 hc6 => ?_⟩
      refine ⟨p6, _, c6, rfl, upd_same, rfl, ?_⟩
      have e : (decide (V.int (c6 : Int) = V.int 0)) = Sq63.together u ls := by
        rw [Bool.eq_iff_iff, decide_eq_true_iff, Nu.together_iff]
        have e1 : V.int (c6 : Int) = V.int 0 ↔ c6 = 0 := by
          constructor
          · intro z
            have := V.int.inj z
            omega
          · rintro rfl; rfl
        rw [e1, hc6]
        constructor
        · intro h
          refine ⟨ncl, fun z hz y hy hu => ?_⟩
          have := h (Int.ofNat z)
          rw [decide_eq_true (List.mem_map.mpr ⟨z, List.mem_flatMap.mpr ⟨y, hy, hu⟩, rfl⟩), decide_eq_true (List.mem_map.mpr ⟨z, hz, rfl⟩)] at this
          cases this
        · rintro ⟨_, h⟩ j
          rw [Bool.eq_false_iff]
          intro z
          rw [Bool.and_eq_true, decide_eq_true_iff, decide_eq_true_iff] at z
          obtain ⟨z1, h1, rfl⟩ := List.mem_map.mp z.1
          obtain ⟨z2, h2, e2⟩ := List.mem_map.mp z.2
          have : z2 = z1 := Int.ofNat.inj e2
          subst this
          obtain ⟨y, hy, hu⟩ := List.mem_flatMap.mp h1
          exact h z2 h2 y hy hu
      exact e.symm ▸ q _ (snew (snew (s04 _) n5) n6)
end NuP
end
/-! # NuR14 -/
section
set_option Elab.async false
set_option maxRecDepth 100000
set_option maxHeartbeats 4000000
set_option linter.all false
namespace NuR
open PySem PySem.Spec PyProof.Rows L2 SrtO
/-! ### the order of rows of whole numbers -/
theorem lex_total : ∀ (a b : List Int), HT.lexLt a b = true ∨ a = b ∨ HT.lexLt b a = true
  | [], [] => Or.inr (Or.inl rfl)
  | [], y :: b => Or.inl (HT.lexLt_nil_cons _ _)
  | x :: a, [] => Or.inr (Or.inr (HT.lexLt_nil_cons _ _))
  | x :: a, y :: b => by
    rw [HT.lexLt_cons, HT.lexLt_cons]
    by_cases q : x = y
    · subst q
      rw [if_pos rfl, if_pos rfl]
      rcases lex_total a b with h | h | h
      · exact Or.inl h
      · exact Or.inr (Or.inl (by rw [h]))
      · exact Or.inr (Or.inr h)
    · rw [if_neg q, if_neg (Ne.symm q), decide_eq_true_iff, decide_eq_true_iff]
      omega
theorem lex_asym {a b : List Int} (h : HT.lexLt a b = true) : HT.lexLt b a = false := by
  cases q : HT.lexLt b a with
  | false => rfl
  | true =>
    have := lex_trans h q
    rw [lexLt_self] at this
    cases this
theorem swo_lexT {α : Type} (k : α → List Int) : Swo fun v u => HT.lexLt (k v) (k u) := by
  refine ⟨fun x y h => lex_asym h, fun x y z h1 h2 => ?_⟩
  cases q : HT.lexLt (k z) (k x) with
  | false => rfl
  | true =>
    rcases lex_total (k x) (k y) with h | h | h
    · have := lex_trans q h
      rw [h2] at this
      cases this
    · rw [h, h2] at q
      cases q
    · rw [h1] at h
      cases h
/-- v is a tuple of these numbers -/
def TupIs (h : Heap) (v : Value) (ns : List Int) : Prop := ∃ (a : Addr) (items : Array Value), v = .ref a ∧ h.IsTuple a items ∧ IntsAre items.toList ns
theorem TupIs.up {h h' : Heap} {v : Value} {ns : List Int} (x : TupIs h v ns) (k : ∀ b o, h.get? b = some o → o.cls = .type "tuple" → h'.get? b = some o) : TupIs h' v ns := by
  obtain ⟨a, items, e, ⟨o, ho, hc, r⟩, hi⟩ := x
  exact ⟨a, items, e, ⟨o, k a o ho hc, hc, r⟩, hi⟩
section
variable {prog : Program} {w : World} {A : Around} {E : Value → Shared → Prop} {s : Shared}
theorem cmp_general {vs : List Value} {k : Value → List Int} (hu : A.units < cLine) (hp : ∀ v ∈ vs, TupIs s.heap v (k v)) : Cmp prog w A s general' (fun p => p.1 ∈ vs) (lt2 fun v u => HT.lexLt (k v) (k u)) := by
  intro p q hm hm'
  obtain ⟨a, its, e, ht, hi⟩ := hp _ hm
  obtain ⟨a', its', e', ht', hi'⟩ := hp _ hm'
  show wpAny (model prog w) A (oneLt' false p.1 q.1) (fun r s' => s' = s ∧ r = HT.lexLt (k p.1) (k q.1)) (fun _ _ => False) s
  rw [e, e'] at *
  exact PySem.W.kat_one _ _ (HT.lt_tupInts ht ht' hi hi' hu (show s = s ∧ _ from ⟨rfl, rfl⟩))
theorem cmp_oneType {vs : List Value} {k : Value → List Int} (hu : A.units < cLine) (hp : ∀ v ∈ vs, TupIs s.heap v (k v)) : Cmp prog w A s oneType' (fun p => p.1 ∈ vs) (lt2 fun v u => HT.lexLt (k v) (k u)) := by
  intro p q hm hm'
  obtain ⟨a, its, e, ht, hi⟩ := hp _ hm
  obtain ⟨a', its', e', ht', hi'⟩ := hp _ hm'
  show wpAny (model prog w) A (keyLt' oneType' p.1 q.1) (fun r s' => s' = s ∧ r = HT.lexLt (k p.1) (k q.1)) (fun _ _ => False) s
  rw [keyLt'_oneType, oneLt'_eq]
  rw [e, e'] at *
  simp only [if_true]
  obtain ⟨⟨cls, dd, data, sl⟩, ho, hc, n, hd⟩ := id ht
  obtain ⟨⟨cls2, dd2, data2, sl2⟩, ho2, hc2, n2, hd2⟩ := id ht'
  simp only at hc hd hc2 hd2
  subst hc hd hc2 hd2
  refine wpAny_bind (wpAny_cRoomFor hu ?_)
  refine wpAny_bind (wpAny_callSpecialIfBound?_slot (T := "tuple") ⟨_, ho, rfl⟩ PySem.F.slot_tuple_lt ?_)
  refine call_meets PySem.F.slot_tuple_lt ⟨_, ho, rfl⟩ PySem.F.entry_tuple_lt (PySem.F.args_tuple_lt_2 _ _) (HT.tuple_lt_ints a a' its its' n n2 dd dd2 sl sl2 _ _ hi hi') ⟨ho, ho2, ?_⟩
  exact wpAny_truthy_bool (show s = s ∧ _ from ⟨rfl, rfl⟩)
theorem lex_go {fin : Bool} {Q : Bool → Shared → Prop} : ∀ {vs us : List Value} {ns ms : List Int} (i : Nat), IntsAre vs ns → IntsAre us ms → fin = decide (ns.length < ms.length) → Q (HT.lexLt ns ms) s → PySem.W.KatLex prog w A true fin Q (vs.zip us) i s
  | [], [], _, _, i, .nil, .nil, hf, q => PySem.W.kat_nil (by rw [hf]; exact q)
  | [], _ :: _, _, _, i, .nil, .cons y t r, hf, q => PySem.W.kat_nil ((show fin = true by rw [hf]; simp) ▸ q)
  | _ :: _, [], _, _, i, .cons x t r, .nil, hf, q => PySem.W.kat_nil ((show fin = false by rw [hf]; simp) ▸ q)
  | _ :: _, _ :: _, _, _, i, .cons x t r, .cons y u r', hf, q => by
    rw [List.zip_cons_cons]
    refine PySem.W.kat_cons (SeqAt.EqAt.int_int x t y u prog w _ _ ?_)
    rw [HT.lexLt_cons] at q
    refine PySem.W.kat_go (fun e => ?_) (fun e => ?_)
    · have ex : x = y := by simpa using e
      rw [if_pos ex] at q
      refine PySem.W.kat_yes (lex_go (i + 1) r r' ?_ q)
      rw [hf, List.length_cons, List.length_cons, decide_eq_decide]
      omega
    · have ex : ¬ x = y := by simpa using e
      rw [if_neg ex] at q
      exact PySem.W.kat_no (oneLt_any_int q)
theorem cmp_tuples {vs : List Value} {k : Value → List Int} (hp : ∀ v ∈ vs, TupIs s.heap v (k v)) : Cmp prog w A s (tuples' true) (fun p => p.1 ∈ vs) (lt2 fun v u => HT.lexLt (k v) (k u)) := by
  intro p q hm hm'
  obtain ⟨a, its, e, ht, hi⟩ := hp _ hm
  obtain ⟨a', its', e', ht', hi'⟩ := hp _ hm'
  show wpAny (model prog w) A (keyLt' (tuples' true) p.1 q.1) (fun r s' => s' = s ∧ r = HT.lexLt (k p.1) (k q.1)) (fun _ _ => False) s
  rw [e, e'] at *
  obtain ⟨o, ho, hc, n, hd⟩ := ht
  obtain ⟨o2, ho2, hc2, n2, hd2⟩ := ht'
  refine PySem.W.kat_lt ho hd ho2 hd2 (lex_go 0 hi hi' ?_ ⟨rfl, rfl⟩)
  rw [← IntsAre.length hi, ← IntsAre.length hi', Array.length_toList, Array.length_toList]
/-! ### the kind of the keys -/
def FstOf (h : Heap) : List Value → List (Option Value) → Prop
  | [], [] => True
  | v :: vs, f :: fs => (∃ a o xs n, v = .ref a ∧ h.get? a = some o ∧ o.cls = .type "tuple" ∧ o.data = .seq xs n ∧ xs[0]? = f) ∧ FstOf h vs fs
  | _, _ => False
theorem firsts_run {M : Model} : ∀ (vs : List Value) (fs : List (Option Value)) {Q : List (Option Value) → Shared → Prop}, FstOf s.heap vs fs → Q fs s → wpAny M A (vs.mapM firstOfTuple') Q E s
  | [], [], _, _, h => by rw [List.mapM_nil]; exact wpAny_pure h
  | [], _ :: _, _, t, _ => t.elim
  | _ :: _, [], _, t, _ => t.elim
  | v :: vs, f :: fs, Q, t, h => by
    obtain ⟨⟨a, o, xs, n, rfl, ho, hc, hd, hf⟩, t⟩ := t
    rw [List.mapM_cons]
    refine wpAny_bind ?_
    rw [PySem.W.kas_first_eq]
    refine wpAny_bind (PySem.W.Looks.here (show PySem.W.Looks M s.heap (typeOf (.ref a)) o.cls from (PySem.W.Looks.ld ho).andThen .now) ?_)
    rw [hc, if_neg (by first | decide | simp)]
    refine wpAny_bind (listItems_at ho hd (wpAny_pure ?_))
    rw [hf]
    exact wpAny_bind (firsts_run vs fs (Q := fun bs s' => wpAny M A (pure (f :: bs)) Q E s') t (wpAny_pure h))
theorem fst_of {h : Heap} {k : Value → List Int} : ∀ (vs : List Value), (∀ v ∈ vs, TupIs h v (k v)) → ∃ fs, FstOf h vs fs ∧ fs.length = vs.length ∧ ∀ f, f ∈ fs → f = none ∨ ∃ i t, f = some (Value.int i t)
  | [], _ => ⟨[], trivial, rfl, by simp⟩
  | v :: vs, hp => by
    obtain ⟨fs, h1, h2, h3⟩ := fst_of vs fun u hu => hp u (by simp [hu])
    obtain ⟨a, items, e, ⟨o, ho, hc, n, hd⟩, hi⟩ := hp v (by simp)
    refine ⟨items[0]? :: fs, ⟨⟨a, o, items, n, e, ho, hc, hd, rfl⟩, h1⟩, by simp [h2], fun f hf => ?_⟩
    rcases List.mem_cons.mp hf with rfl | hf
    · cases q : items[0]? with
      | none => exact Or.inl rfl
      | some x =>
        obtain ⟨t, rfl⟩ := PyProof.Rows.IntsAre.int_at hi 0 x (by rw [Array.getElem?_toList, q])
        exact Or.inr ⟨_, _, rfl⟩
    · exact h3 f hf
theorem tups_kind {vs : List Value} {k : Value → List Int} (h2 : 2 ≤ vs.length) (hp : ∀ v ∈ vs, TupIs s.heap v (k v)) : ∃ κ, (κ = general' ∨ κ = oneType' ∨ κ = tuples' true) ∧ ∀ (Q : SortKind → Shared → Prop) (E : Value → Shared → Prop), Q κ s → wpAny (model prog w) A (keyKind' vs.toArray) Q E s := by
  obtain ⟨fs, h1, hl, h3⟩ := fst_of vs hp
  by_cases c : (fs.toArray.all fun x => x.isSome) = true
  · refine ⟨tuples' true, Or.inr (Or.inr rfl), fun Q E hq => ?_⟩
    rw [PyProof.Rows.kat_kind_eq, List.mapM_toArray, map_eq_pure_bind]
    refine wpAny_bind (wpAny_bind (firsts_run vs fs h1 (wpAny_pure ?_)))
    rw [if_pos c]
    refine wpAny_bind (wpAny_rule ?_)
    have c' : ∀ f, f ∈ fs → f.isSome = true := by simpa using c
    obtain ⟨gs, hg⟩ : ∃ gs : List Value, fs = gs.map some := by
      clear h1 hl h3 c
      induction fs with
      | nil => exact ⟨[], rfl⟩
      | cons f fs ih =>
        obtain ⟨gs, rfl⟩ := ih fun x hx => c' x (by simp [hx])
        have := c' f (by simp)
        cases f with
        | none => cases this
        | some x => exact ⟨x :: gs, rfl⟩
    subst hg
    have hfm : ((gs.map some).toArray.filterMap id) = gs.toArray := by simp
    rw [hfm, PyProof.Rows.oneTypeOnly'_eq, List.mapM_toArray, map_eq_pure_bind]
    refine wpAny_bind (wpAny_bind (wpAny_bind (PySem.W.kas_mapM (r := Value.type "int") _ (fun v hv Q' hq => ?_) (wpAny_pure ?_))))
    · rcases h3 (some v) (List.mem_map.mpr ⟨v, hv, rfl⟩) with q | ⟨i, t, q⟩
      · cases q
      · cases q
        exact (show PySem.W.Looks _ s.heap (typeOf (Value.int i t)) (Value.type "int") from PySem.W.Looks.now).here hq
    have hall2 : ((List.map (fun _ => Value.type "int") gs).toArray.all fun x => x == Value.type "int") = true := by
      simp only [List.all_toArray, List.all_map, List.all_eq_true]
      intro _ _
      rfl
    have h0 : (List.map (fun _ => Value.type "int") gs).toArray[0]? = some (Value.type "int") := by
      cases gs with
      | nil => simp at hl; omega
      | cons g gs => simp
    rw [h0]
    simp only [hall2, if_true]
    have e : (Value.type "int" != Value.type "tuple") = true := by first | decide +kernel | rfl | decide
    refine wpAny_pure (wpAny_pure ?_)
    show Q (tuples' (Value.type "int" != Value.type "tuple")) s
    rw [e]
    exact hq
  · by_cases c2 : ((fs.toArray[0]?).bind id).isSome = true
    · refine ⟨general', Or.inl rfl, fun Q E hq => ?_⟩
      rw [PyProof.Rows.kat_kind_eq, List.mapM_toArray, map_eq_pure_bind]
      refine wpAny_bind (wpAny_bind (firsts_run vs fs h1 (wpAny_pure ?_)))
      rw [if_neg c, if_pos c2]
      exact wpAny_pure hq
    · refine ⟨oneType', Or.inr (Or.inl rfl), fun Q E hq => ?_⟩
      rw [PyProof.Rows.kat_kind_eq, List.mapM_toArray, map_eq_pure_bind]
      refine wpAny_bind (wpAny_bind (firsts_run vs fs h1 (wpAny_pure ?_)))
      rw [if_neg c, if_neg c2, PyProof.Rows.oneTypeOnly'_eq, List.mapM_toArray, map_eq_pure_bind]
      refine wpAny_bind (wpAny_bind (wpAny_bind (PySem.W.kas_mapM (r := Value.type "tuple") _ (fun v hv Q' hq => ?_) (wpAny_pure ?_))))
      · obtain ⟨a, items, e, ⟨o, ho, hc, n, hd⟩, hi⟩ := hp v hv
        rw [e]
        exact (show PySem.W.Looks _ s.heap (typeOf (.ref a)) (Value.type "tuple") from hc ▸ (PySem.W.Looks.ld ho).andThen .now).here hq
      have hall2 : ((List.map (fun _ => Value.type "tuple") vs).toArray.all fun x => x == Value.type "tuple") = true := by
        simp only [List.all_toArray, List.all_map, List.all_eq_true]
        intro _ _
        rfl
      have h0 : (List.map (fun _ => Value.type "tuple") vs).toArray[0]? = some (Value.type "tuple") := by
        cases vs with
        | nil => simp at h2
        | cons g gs => simp
      rw [h0]
      simp only [hall2, if_true]
      exact wpAny_pure (wpAny_pure hq)
theorem tups_sortable {a : Addr} {vs : List Value} {k : Value → List Int} (hu : A.units < cLine) (h2 : 2 ≤ vs.length) (hp : ∀ v ∈ vs, TupIs s.heap v (k v)) (ha : ∀ o, s.heap.get? a = some o → o.cls ≠ .type "tuple") : SortableO prog w A s a vs fun v u => HT.lexLt (k v) (k u) := by
  intro h' keep
  have hp' : ∀ v ∈ vs, TupIs h' v (k v) := fun v hm => (hp v hm).up fun b o e c => keep b o (fun z => by subst z; exact ha o e c) e
  obtain ⟨κ, hk, hr⟩ := tups_kind (prog := prog) (w := w) (A := A) (s := { s with heap := h' }) h2 hp'
  refine ⟨κ, hr, ?_⟩
  rcases hk with rfl | rfl | rfl
  · exact cmp_general hu hp'
  · exact cmp_oneType hu hp'
  · exact cmp_tuples hp'
end
/-! ### as rules -/
/-- the numbers of the tuple that stands there -/
def tInts (H : Hp) (v : V) : List Int := match v with
  | .ref t => match H t with
    | some (.tup xs) => xs.map fun x => match x with
      | .int i => i
      | _ => 0
    | _ => []
  | _ => []
theorem tInts_at {H : Hp} {t : Addr} {ns : List Int} (h : H t = some (.tup (ns.map V.int))) : tInts H (.ref t) = ns := by
  unfold tInts
  simp only [h, List.map_map]
  exact (List.map_congr_left fun i _ => rfl).trans (List.map_id' ns)
def ltT (H : Hp) (x y : V) : Bool := HT.lexLt (tInts H x) (tInts H y)
def rSortedT (K : PySem.W.Frag) : List V → Hp → VK → Prop := fun vs H Q => ∃ (a : Addr) (xs : List V), vs = [V.ref a] ∧ SqL K H a xs ∧ (∀ x ∈ xs, ∃ (t : Addr) (ns : List Int), x = V.ref t ∧ H t = some (.tup (ns.map V.int))) ∧
  ∀ ys p, ys.Pairwise (fun x y => ltT H y x = false) → ys.Perm xs → H p = none → Q (.ref p) (upd H p (.lst ys))
section
variable {X : Cx}
theorem backV_ref (t : Addr) : backV (.ref t) = .ref t := rfl
theorem cr_sortedT (hu : X.A.units + 64 < cLine) : CallR X (.builtin "sorted") (rSortedT X.K) := by
  intro pins s σ H vs us Q I r h
  obtain ⟨a, xs, rfl, hs, hx, q⟩ := h
  obtain ⟨its, rv, hl, hz⟩ := I.list hs
  obtain ⟨u, rfl, ru⟩ := vals1 r
  obtain rfl : u = Value.ref a := ru
  obtain ⟨e1, e2⟩ := refs_back rv fun x m => by
    obtain ⟨t, ns, e, _⟩ := hx x m
    exact ⟨t, e⟩
  have hp : ∀ v ∈ its, TupIs s.heap v (tInts H (backV v)) := fun v hv => by
    obtain ⟨t, rfl⟩ := e2 v hv
    have hm : V.ref t ∈ xs := by rw [e1]; exact List.mem_map.mpr ⟨_, hv, rfl⟩
    obtain ⟨t', ns, e, ht⟩ := hx _ hm
    cases e
    obtain ⟨_, its2, r2, o, ho, hc, n, hd⟩ := I.hok _ _ ht
    rw [backV_ref, tInts_at ht]
    exact ⟨t, its2.toArray, rfl, ⟨o, ho, hc, n, hd⟩, by simpa using r2.ints⟩
  refine sorted_ord (swo_lexT fun u => tInts H (backV u)) hl.isList (by rw [← rv.length]; exact hz) (fun h2 h₁ a' ha' kk => ?_) fun out h1 h2 => ?_
  · refine tups_sortable (by show X.A.units + 1 + 1 < cLine; omega) h2 (fun v hv => (hp v hv).up fun b o e _ => (kk b o e).2) fun o e => ?_
    have e' : some o = some (seqObj "list" its.toArray 0) := e.symm.trans ha'
    cases e'
    intro c
    exact absurd (Value.type.inj c) (by decide)
  · have h3 : ∀ u ∈ out, ∃ a, u = Value.ref a := fun u hu => e2 u (h2.perm.mem_iff.mp hu)
    obtain ⟨ep, he'⟩ := PyProof.Rows.sortedAll_at s.heap its out.toArray
    have hb : (out.map backV).Perm xs := by
      rw [e1]
      exact h2.perm.map backV
    refine ⟨.ref _, upd H (s.heap.objs.size + 1) (.lst (out.map backV)), I.laid (t' := s.toks) (fun _ _ => PyProof.Rows.sortedAll_old) (Nat.le_succ _) ⟨?_, out, ep, vals_back h3, he'⟩, rfl, q _ _ ?_ hb (I.hok.fresh (Nat.le_succ _))⟩
    · rw [hb.length_eq]
      exact hz
    · exact List.pairwise_map.mpr h1
end
end NuR
end
/-! # NuR15 -/
section
set_option Elab.async false
set_option maxRecDepth 100000
set_option maxHeartbeats 4000000
set_option linter.all false
namespace NuR
open PySem PySem.Spec PyProof.Rows L2 SrtO
section
variable {X : Cx}
def rSortedD : List V → Hp → VK → Prop := fun vs H Q => ∃ (d : Addr) (kvs : List (List Key × V)), vs = [V.ref d] ∧ Rd H d (.dT kvs) ∧ (∀ p, p ∈ kvs → ∃ ns : List Int, p.1 = ns.map Sum.inl) ∧
  ∀ ys p bs, IsKeys H kvs bs → ys.Perm (bs.map V.ref) → ys.Pairwise (fun x y => ltT H y x = false) → H p = none → Q (.ref p) (upd H p (.lst ys))
theorem keys_tup {H : Hp} : ∀ {kvs : List (List Key × V)} {bs : List Addr}, IsKeys H kvs bs → (∀ p, p ∈ kvs → ∃ ns : List Int, p.1 = ns.map Sum.inl) → ∀ b, b ∈ bs → ∃ ns : List Int, H b = some (.tup (ns.map V.int))
  | _, _, .nil, _, b, hb => by simp at hb
  | _, _, .cons (a := p) h t, hk, b, hb => by
    rcases List.mem_cons.mp hb with rfl | hb
    · obtain ⟨ns, e⟩ := hk p (by simp)
      refine ⟨ns, ?_⟩
      rw [h, e, List.map_map]
      rfl
    · exact keys_tup t (fun q hq => hk q (by simp [hq])) b hb
/-- sorted(d), d a dict whose keys are tuples of whole numbers -/
theorem cr_sortedD (hc : X.calm = true) (hu : X.A.units + 64 < cLine) : CallR X (.builtin "sorted") rSortedD := by
  intro pins s σ H xs us Q I r h
  obtain ⟨d, kvs, rfl, hd, hk, q⟩ := h
  obtain ⟨u, rfl, rx⟩ := r.one
  cases rx
  obtain ⟨z, hs, ks, pr, o, es, ep, ho, hx, hdt, he, hn⟩ := (show ObjOk X.prog X.w H s.heap d (.dT kvs) from hd.ok I.hok)
  have l1 : es.size = ks.length := size_of_entries he
  have l2 : kvs.length = ks.length := Paired.length pr
  have hkeys := isKeys_of pr
  have hz : es.size ≤ sizeLine := by omega
  refine Calls.call_function_entry kind_sorted plain_sorted entry_sorted (args_sorted1 _) ?_
  unfold Builtin.«sorted»
  refine wpAny_bind (m := checkCount "sorted" 1 1 _) (wpAny_pure ?_)
  refine wpAny_bind (PySem.W.kdu_collect (A := X.A.in1) (kdl_raw hs hx hdt) (by simp [I.ok.hd hc]) ho hz fun h' tk acc' kp it => ?_)
  have ea : acc'.toList = ks.map fun x => Value.ref x.2.1 := by
    have hl : acc'.toList.length = ks.length := by rw [Array.length_toList, it.1]; exact l1
    apply List.ext_getElem?
    intro j
    rw [List.getElem?_map]
    cases hj : acc'.toList[j]? with
    | none =>
      have h1 := List.getElem?_eq_none_iff.mp hj
      rw [List.getElem?_eq_none (by omega)]
      all_goals rfl
    | some v =>
      obtain ⟨en, hen, hv⟩ := it.2 j v (by rw [← Array.getElem?_toList]; exact hj)
      have qe := entry_at he j
      rw [hen] at qe
      cases hb : ks[j]? with
      | none =>
        rw [hb] at qe
        exact nomatch (show some en = none from qe)
      | some b =>
        rw [hb] at qe
        have e2 : en = entryOfKey (tupleKind (mixKind X.prog X.w)) b := Option.some.inj qe
        rw [hv, e2]
        all_goals rfl
  have eb : acc'.toList = (ks.map fun x => x.2.1).map Value.ref := by rw [ea, List.map_map]; all_goals rfl
  rw [eb]
  generalize hbs : (ks.map fun x => x.2.1) = bs at eb hkeys
  have lb : (bs.map Value.ref).length ≤ sizeLine := by rw [← hbs, List.length_map, List.length_map]; omega
  refine wpAny_bind (wpAny_newList ?_ lb)
  have hoL : (h'.push (seqObj "list" (bs.map Value.ref).toArray 0)).get? h'.objs.size = some (seqObj "list" (bs.map Value.ref).toArray 0) := Heap.get?_push_size _ rfl
  have kp2 : ∀ b o, s.heap.get? b = some o → (h'.push (seqObj "list" (bs.map Value.ref).toArray 0)).get? b = some o := fun b o e => Heap.get?_push_of_some _ (kp b o e)
  have hp : ∀ v ∈ bs.map Value.ref, TupIs (h'.push (seqObj "list" (bs.map Value.ref).toArray 0)) v (tInts H (backV v)) := fun v hv => by
    obtain ⟨b, hb, rfl⟩ := List.mem_map.mp hv
    obtain ⟨ns, ht⟩ := keys_tup hkeys hk b hb
    obtain ⟨_, its2, r2, o, ho, hc, n, hd⟩ := I.hok _ _ ht
    rw [backV_ref, tInts_at ht]
    exact ⟨b, its2.toArray, rfl, ⟨o, kp2 _ _ ho, hc, n, hd⟩, by simpa using r2.ints⟩
  show wpAny _ _ _ _ _ { s with heap := h'.push (seqObj "list" (bs.map Value.ref).toArray 0), toks := tk }
  refine wpAny_bind (wpAny_holding (wpAny_call_entry slot_list_sort ⟨_, hoL, rfl⟩ entry_list_sort (list_sort_ord (s := { s with heap := h'.push (seqObj "list" (bs.map Value.ref).toArray 0), toks := tk }) (swo_lexT fun u => tInts H (backV u)) hoL lb (fun h2 => ?_) fun out h1 h2 => ⟨_, rfl, ?_⟩) (args_list_sort _)))
  · refine tups_sortable (by show X.A.units + 1 + 1 < cLine; omega) h2 hp fun o e => ?_
    have e' : some o = some (seqObj "list" (bs.map Value.ref).toArray 0) := e.symm.trans hoL
    cases e'
    intro c
    exact absurd (Value.type.inj c) (by decide)
  · have h3 : ∀ u ∈ out, ∃ a, u = Value.ref a := fun u hu => by
      obtain ⟨b, _, rfl⟩ := List.mem_map.mp (h2.perm.mem_iff.mp hu)
      exact ⟨b, rfl⟩
    obtain ⟨ep', he'⟩ := PyProof.Rows.sortedHeap_at (vs := bs.map Value.ref) (out := out.toArray) hoL
    have hb : (out.map backV).Perm (bs.map V.ref) := by
      have := h2.perm.map backV
      rw [List.map_map] at this
      exact this
    have I2 : Inv X pins σ H { s with heap := h', toks := tk } := I.kept kp
    refine wpAny_pure ⟨_, rfl, .ref h'.objs.size, upd H h'.objs.size (.lst (out.map backV)), I2.laid (t' := tk) (fun b o e => ?_) (Nat.le_refl _) ⟨?_, out, ep', vals_back h3, he'⟩, rfl, q _ _ bs hkeys hb (List.pairwise_map.mpr h1) (I2.hok.fresh (Nat.le_refl _))⟩
    · have hlt : b < h'.objs.size := Heap.lt_size e
      have e2 : (h'.push (seqObj "list" (bs.map Value.ref).toArray 0)).get? b = some o := Heap.get?_push_of_some _ e
      rw [PyProof.Rows.sortedHeap_old (Nat.ne_of_lt hlt) (Heap.lt_size e2)]
      exact e2
    · rw [hb.length_eq]
      simpa using lb
end
end NuR
end
/-! # NuR16 -/
section
set_option Elab.async false
set_option maxRecDepth 100000
set_option maxHeartbeats 4000000
set_option linter.all false
namespace NuR
open PySem PySem.Spec PyProof.Rows L2 SrtO
/-- what a sorting by whole numbers leaves: sorted, and those of one number as they stood -/
structure ByNum {α : Type} (kf : α → Int) (vs out : List α) : Prop where
  perm : out.Perm vs
  ord : out.Pairwise fun x y => kf x ≤ kf y
  cls : ∀ m, out.filter (fun v => decide (kf v = m)) = vs.filter fun v => decide (kf v = m)
section
variable {prog : Program} {w : World} {A : Around} {E : Value → Shared → Prop}
theorem keys_pairs {kf : Value → Int} : ∀ (vs ks : List Value), IntsAre ks (vs.map kf) → ∀ p, p ∈ ks.zip vs → iv p.1 = kf p.2
  | [], ks, h, p, hp => by simp at hp
  | v :: vs, ks, h, p, hp => by
    rw [List.map_cons] at h
    cases h with
    | cons n t r =>
      rw [List.zip_cons_cons] at hp
      rcases List.mem_cons.mp hp with rfl | hp
      · rfl
      · exact keys_pairs vs _ r p hp
theorem zip_snd : ∀ {ks vs : List Value}, ks.length = vs.length → (ks.zip vs).map (·.2) = vs
  | [], [], _ => rfl
  | k :: ks, v :: vs, h => by rw [List.zip_cons_cons, List.map_cons, zip_snd (by simpa using h)]
theorem by_num {kf : Value → Int} {vs : List Value} {keys : Array Value} (hk : IntsAre keys.toList (vs.map kf)) {arr : List Keyed} (h1 : Srtd (lt2 ltIv) arr) (h2 : Stb (lt2 ltIv) arr (keys.toList.zip vs)) : ByNum kf vs (arr.map (·.2)) := by
  have len : keys.toList.length = vs.length := by rw [IntsAre.length hk, List.length_map]
  have kp := keys_pairs _ _ hk
  have ka : ∀ p, p ∈ arr → iv p.1 = kf p.2 := fun p hp => kp p (h2.perm.mem_iff.mp hp)
  refine ⟨?_, ?_, fun m => ?_⟩
  · have := h2.perm.map (·.2)
    rw [zip_snd len] at this
    exact this
  · rw [List.pairwise_map]
    refine List.Pairwise.imp_of_mem (fun {a b} ha hb hab => ?_) h1
    have := of_decide_eq_false (p := iv b.1 < iv a.1) hab
    rw [← ka a ha, ← ka b hb]
    omega
  · have c := h2.cls (Value.int m 0, Value.none)
    have f : ∀ l : List Keyed, (∀ p, p ∈ l → iv p.1 = kf p.2) → (l.map (·.2)).filter (fun v => decide (kf v = m)) = (l.filter (eqv (lt2 ltIv) (Value.int m 0, Value.none))).map (·.2) := fun l hl => by
      rw [List.filter_map]
      refine congrArg (List.map _) (List.filter_congr fun p hp => ?_)
      rw [Bool.eq_iff_iff, eqv_iff]
      show decide (kf p.2 = m) = true ↔ decide (m < iv p.1) = false ∧ decide (iv p.1 < m) = false
      rw [decide_eq_true_iff, decide_eq_false_iff_not, decide_eq_false_iff_not, hl p hp]
      omega
    rw [f arr ka, c, ← f _ kp, zip_snd len]
/-- list.sort by a key that is a whole number -/
theorem sort_num {s : Shared} {a : Addr} {vs : List Value} {n : Nat} {f : Value} {kf : Value → Int} {R : PySem.Fin → Shared → Prop} (ho : s.heap.get? a = some (seqObj "list" vs.toArray n)) (hz : vs.length ≤ sizeLine)
    (hcall : ∀ v ∈ vs, ∀ (s' : Shared) (Q : Value → Shared → Prop), (∀ b o, b ≠ a → s.heap.get? b = some o → s'.heap.get? b = some o) → (∀ t tk, Q (.int (kf v) t) { s' with toks := tk }) → wpAny (model prog w) A (call f [v]) Q (fun _ _ => False) s')
    (h : ∀ (out : List Value) (h' : Heap) (tk c : Nat), ByNum kf vs out → (∀ b o, b ≠ a → s.heap.get? b = some o → h'.get? b = some o) → h'.get? a = some (seqObj "list" out.toArray c) → R (.done (.ret .none)) { s with heap := h', toks := tk }) :
    wpAny (model prog w) A (ksk_tree a f false) R E s := by
  have hsl : sizeLine = 16777216 := sizeLine_eq
  have la : a < s.heap.objs.size := Heap.lt_size ho
  unfold ksk_tree
  refine wpAny_bind (listItems_at ho rfl (wpAny_bind (listUpdate_at ho rfl ?_ (by simpa using hz) (Nat.zero_le _))))
  obtain ⟨e1, ho1⟩ : ∃ e, (s.heap.update a (Obj.mapSeq fun _ => #[])).get? a = some (seqObj "list" #[] e) := ⟨_, get?_update_seq ho fun _ => #[]⟩
  have k1 := Heap.SameBut.update s.heap a (Obj.mapSeq fun _ => (#[] : Array Value))
  refine wpAny_bind (seqEpoch_at ho1 rfl (wpAny_bind (wpAny_newTuple (wpAny_bind (wpAny_newList (wpAny_holding ?_) (Nat.zero_le _))) (by show vs.length ≤ _; exact hz))))
  generalize hH : (s.heap.update a (Obj.mapSeq fun _ => (#[] : Array Value))).push (seqObj "tuple" vs.toArray 0) = H1
  have zH : H1.objs.size = s.heap.objs.size + 1 := by rw [← hH, size_push', Heap.size_update]
  have k2 : ∀ b o, b ≠ a → s.heap.get? b = some o → H1.get? b = some o := fun b o hb e => by rw [← hH]; exact Heap.get?_push_of_some _ ((k1.2 b hb).trans e)
  have g1 : H1.get? a = some (seqObj "list" #[] e1) := by rw [← hH]; exact Heap.get?_push_of_some _ ho1
  have ne : H1.objs.size ≠ a := by rw [zH]; exact Nat.ne_of_gt (Nat.lt_succ_of_lt la)
  show wpAny _ _ (ksk_rest a f false vs.toArray e1 (.ref H1.objs.size)) _ _ { s with heap := H1.push (seqObj "list" #[] 0) }
  unfold ksk_rest
  refine wpAny_bind (wpAny_rule ?_)
  rw [List.forIn_toArray]
  -- the keys, one behind another
  refine wpAny_bind (ksk_fold (fun i s' => ∃ (h' : Heap) (tk : Nat) (kA : Array Value) (e : Nat), s' = { s with heap := h', toks := tk } ∧ h'.get? H1.objs.size = some (seqObj "list" kA e) ∧ h'.get? a = some (seqObj "list" #[] e1) ∧ (∀ b o, b ≠ a → s.heap.get? b = some o → h'.get? b = some o) ∧ IntsAre kA.toList ((vs.take i).map kf)) vs 0 _
    ⟨_, s.toks, #[], 0, rfl, Heap.get?_push_size _ rfl, Heap.get?_push_of_some _ g1, fun b o hb e => Heap.get?_push_of_some _ (k2 b o hb e), by simpa using IntsAre.nil⟩ ?turn ?rest)
  case turn =>
    rintro j x s' hx ⟨h', tk, kA, e, rfl, gk, ga, kp, hk⟩
    rw [Nat.zero_add] at hk ⊢
    have hj := (List.getElem?_eq_some_iff.mp hx).1
    have hks : kA.size ≤ vs.length := by
      have := IntsAre.length hk
      rw [Array.length_toList, List.length_map, List.length_take] at this
      omega
    refine wpAny_bind (wpAny_attempt (wpAny_mono (hcall x (List.mem_of_getElem? hx) { s with heap := h', toks := tk } (fun v s'' => ∃ t tk2, v = .int (kf x) t ∧ s'' = { s with heap := h', toks := tk2 }) kp fun t tk2 => ⟨t, tk2, rfl, rfl⟩) (fun v s'' he => ?_) fun _ _ z => z.elim))
    obtain ⟨t, tk2, rfl, rfl⟩ := he
    dsimp only
    have sb := Heap.SameBut.update h' H1.objs.size (Obj.mapSeq (·.push (.int (kf x) t)))
    refine wpAny_bind (listUpdate_at gk rfl ?_ (by omega) (Nat.le_trans (Nat.le_of_eq (Array.size_push ..)) (by omega)))
    refine wpAny_pure ⟨rfl, _, _, kA.push (.int (kf x) t), _, rfl, get?_update_seq gk (·.push (.int (kf x) t)), (sb.2 a (Ne.symm ne)).trans ga, fun b o hb eo => (sb.2 b fun z => ?_).trans (kp b o hb eo), ?_⟩
    · have := Heap.lt_size eo
      rw [z, zH] at this
      exact absurd this (Nat.not_lt.mpr (Nat.le_succ _))
    · rw [Array.toList_push, List.take_add_one, hx, List.map_append]
      exact ksk_snoc hk
  case rest =>
    rintro s' ⟨h', tk, kA, e, rfl, gk, ga, kp, hk⟩
    rw [Nat.zero_add, List.take_length] at hk
    refine wpAny_bind (listItems_at gk rfl ?_)
    have ksz : kA.size = vs.length := by rw [← Array.length_toList, IntsAre.length hk, List.length_map]
    have ez : (kA.zip vs.toArray).toList = kA.toList.zip vs := ksk_zip kA vs
    -- behind the sorting
    have done : ∀ (st : SortSt) (E' : Value → Shared → Prop), Srtd (lt2 ltIv) (arrOf st).toList → Stb (lt2 ltIv) (arrOf st).toList (kA.toList.zip vs) → failedOf st = none → wpAny (model prog w) A (ksk_tail a false e1 (.ref H1.objs.size) st) R E' { s with heap := h', toks := tk } := by
      intro st E' h1 h2 h3
      have B := by_num hk h1 h2
      have osz : ((arrOf st).map (·.2)).size = vs.length := by
        have := B.perm.length_eq
        rw [List.length_map, Array.length_toList] at this
        rw [Array.size_map]
        exact this
      have sb := Heap.SameBut.update h' H1.objs.size (Obj.mapSeq fun _ => (#[] : Array Value))
      have ga2 := (sb.2 a (Ne.symm ne)).trans ga
      have sb2 := Heap.SameBut.update (h'.update H1.objs.size (Obj.mapSeq fun _ => (#[] : Array Value))) a (Obj.mapSeq fun _ => (arrOf st).map (·.2))
      obtain ⟨c2, hc2⟩ : ∃ c2, ((h'.update H1.objs.size (Obj.mapSeq fun _ => (#[] : Array Value))).update a (Obj.mapSeq fun _ => (arrOf st).map (·.2))).get? a = some (seqObj "list" ((arrOf st).map (·.2)) c2) := ⟨_, get?_update_seq ga2 fun _ => (arrOf st).map (·.2)⟩
      unfold ksk_tail
      refine wpAny_bind (listUpdate_at gk rfl (wpAny_bind (wpAny_letGo (wpAny_bind (seqEpoch_at ga2 rfl (wpAny_bind (listUpdate_at ga2 rfl ?_ (Nat.zero_le _) ?_)))))) (by omega) (Nat.zero_le _))
      · rw [h3]
        simp only [bne_self_eq_false, Bool.false_eq_true, if_false]
        refine wpAny_pure (h ((arrOf st).toList.map (·.2)) _ _ c2 B (fun b o hb eo => (sb2.2 b hb).trans ((sb.2 b fun z => ?_).trans (kp b o hb eo))) ?_)
        · have := Heap.lt_size eo
          rw [z, zH] at this
          exact absurd this (Nat.not_lt.mpr (Nat.le_succ _))
        · have ea : ((arrOf st).toList.map (·.2)).toArray = (arrOf st).map (·.2) := by
            rw [← Array.toList_map, Array.toArray_toList]
          rw [ea]
          exact hc2
      · simp only [Bool.false_eq_true, if_false]
        omega
    unfold ksk_end
    simp only [Bool.false_eq_true, if_false]
    by_cases h2 : vs.toArray.size < 2
    · rw [if_pos h2, if_pos h2]
      refine wpAny_bind (wpAny_pure ?_)
      rw [StateT.run_pure]
      refine wpAny_bind (wpAny_pure ?_)
      refine done (SortSt.mk' general' (kA.zip vs.toArray) #[] 7 none) _ ?_ ?_ rfl
      · show Srtd (lt2 ltIv) (kA.zip vs.toArray).toList
        rw [ez]
        have hl : (kA.toList.zip vs).length < 2 := by
          rw [List.length_zip, Array.length_toList]
          have : vs.toArray.size = vs.length := by simp
          omega
        match hq : kA.toList.zip vs, hl with
        | [], _ => exact List.Pairwise.nil
        | [x], _ => exact List.pairwise_singleton _ _
        | _ :: _ :: _, q => exact absurd q (by simp)
      · show Stb (lt2 ltIv) (kA.zip vs.toArray).toList _
        rw [ez]
        exact Stb.refl _
    · rw [if_neg h2, if_neg h2]
      have hv2 : 2 ≤ vs.length := by simpa using h2
      rw [ksk_kind hk (by rw [ksz]; exact hv2)]
      refine wpAny_bind (wpAny_pure ?_)
      refine wpAny_bind (wpAny_mono (wpS_sortO (st0 := SortSt.mk' oneType' (kA.zip vs.toArray) #[] 7 none) (P := fun p => p.1 ∈ kA.toList)
        (Q := fun _ st' => Srtd (lt2 ltIv) (arrOf st').toList ∧ Stb (lt2 ltIv) (arrOf st').toList (kA.toList.zip vs) ∧ failedOf st' = none) (swo2 swo_int) (int_cmp hk) rfl (fun p hp => ?_) rfl rfl fun st' a1 a2 a3 => ⟨a1, ?_, a3⟩) ?_ fun _ _ e => e)
      · have hp : p ∈ (kA.zip vs.toArray).toList := hp
        rw [ez] at hp
        exact (List.of_mem_zip (show (p.1, p.2) ∈ _ from hp)).1
      · have a2 : Stb (lt2 ltIv) (arrOf st').toList (kA.zip vs.toArray).toList := a2
        rw [ez] at a2
        exact a2
      · rintro ⟨⟨⟩, st'⟩ s' ⟨rfl, hp1, hp2, hf⟩
        exact done st' _ hp1 hp2 hf
/-- sorted(l, key=f) -/
theorem sorted_num {s : Shared} {l : Addr} {vs : List Value} {id : String} {kf : Value → Int} {Q : Value → Shared → Prop} (hl : s.heap.IsList l vs.toArray) (hz : vs.length ≤ sizeLine)
    (hcall : ∀ v ∈ vs, ∀ (s' : Shared) (Q : Value → Shared → Prop), (∀ b o, s.heap.get? b = some o → s'.heap.get? b = some o) → (∀ t tk, Q (.int (kf v) t) { s' with toks := tk }) → wpAny (model prog w) A.in1.in1 (call (.builtin id) [v]) Q (fun _ _ => False) s')
    (h : ∀ (out : List Value) (h' : Heap) (tk c : Nat), ByNum kf vs out → (∀ b o, s.heap.get? b = some o → h'.get? b = some o) → h'.get? (s.heap.objs.size + 1) = some (seqObj "list" out.toArray c) → Q (.ref (s.heap.objs.size + 1)) { s with heap := h', toks := tk }) :
    wpAny (model prog w) A (call (.builtin "sorted") [.ref l] [(Str.ofString "key", .builtin id)]) Q E s := by
  refine call_function_entry_kw kind_sorted plain_sorted entry_sorted (ksk_s1 _ _) ?_
  unfold Builtin.«sorted»
  refine wpAny_bind (m := checkCount "sorted" 1 1 _) (wpAny_pure (wpAny_bind (collect_list hl (wpAny_bind (wpAny_newList ?_ hz)) hz)))
  generalize hH : (s.heap.push (seqObj "list" #[] 0)).update s.heap.objs.size (Obj.mapSeq (· ++ vs.toArray)) = H1
  have zH : H1.objs.size = s.heap.objs.size + 1 := by rw [← hH, Heap.size_update, size_push']
  have kp : ∀ b o, s.heap.get? b = some o → b ≠ s.heap.objs.size + 1 ∧ (H1.push (seqObj "list" vs.toArray 0)).get? b = some o := fun b o e => by
    have hlt := Heap.lt_size e
    refine ⟨Nat.ne_of_lt (Nat.lt_succ_of_lt hlt), Heap.get?_push_of_some _ ?_⟩
    rw [← hH, Heap.get?_update_ne _ _ _ _ (Nat.ne_of_lt hlt)]
    exact Heap.get?_push_of_some _ e
  have gL : (H1.push (seqObj "list" vs.toArray 0)).get? (s.heap.objs.size + 1) = some (seqObj "list" vs.toArray 0) := by rw [← zH]; exact Heap.get?_push_size _ rfl
  show wpAny _ _ _ _ _ { s with heap := H1.push (seqObj "list" vs.toArray 0) }
  rw [zH]
  refine wpAny_bind (wpAny_holding (wpAny_call_entry_kw slot_list_sort ⟨_, gL, rfl⟩ entry_list_sort ?_ (ksk_l1 _ _)))
  rw [ksk_t4]
  refine sort_num (s := { s with heap := H1.push (seqObj "list" vs.toArray 0) }) gL hz (fun v hv s' Q' k q => hcall v hv s' Q' (fun b o e => k b o (kp b o e).1 (kp b o e).2) q) fun out h' tk c B k g => ⟨_, rfl, ?_⟩
  exact wpAny_pure ⟨_, rfl, h out h' tk c B (fun b o e => k b o (kp b o e).1 (kp b o e).2) g⟩
end
end NuR
end
/-! # NuR17 -/
section
set_option Elab.async false
set_option maxRecDepth 100000
set_option maxHeartbeats 4000000
set_option linter.all false
namespace NuR
open PySem PySem.Spec PyProof.Rows L2 SrtO
/-- how long the tuple is -/
def tLen (H : Hp) (v : V) : Int := match v with
  | .ref t => match H t with
    | some (.tup xs) => (xs.length : Int)
    | _ => 0
  | _ => 0
theorem tLen_at {H : Hp} {t : Addr} {xs : List V} (h : H t = some (.tup xs)) : tLen H (.ref t) = (xs.length : Int) := by
  unfold tLen
  simp only [h]
theorem ByNum.map {α β : Type} {kf : β → Int} (g : α → β) {vs out : List α} (h : ByNum (fun a => kf (g a)) vs out) : ByNum kf (vs.map g) (out.map g) := by
  refine ⟨h.perm.map g, List.pairwise_map.mpr h.ord, fun m => ?_⟩
  rw [List.filter_map, List.filter_map]
  exact congrArg (List.map g) (h.cls m)
def tSortLen (K : PySem.W.Frag) (te : TE) : TE := fun σ H Q => te σ H fun x H1 => ∃ (a : Addr) (xs : List V), [x] = [V.ref a] ∧ SqL K H1 a xs ∧ (∀ y ∈ xs, ∃ (t : Addr) (zs : List V), y = V.ref t ∧ H1 t = some (.tup zs)) ∧
  ∀ ys p, ByNum (tLen H1) xs ys → H1 p = none → Q (.ref p) (upd H1 p (.lst ys))
section
variable {X : Cx}
theorem pe_sortLen {e : Expr} {te : TE} {p p2 kpos pos : Pos} (hg : Gl X "sorted") (hm : X.mg "sorted" = none) (hg2 : Gl X "len") (hm2 : X.mg "len" = none) (he : PE X e te)
    (hst : backTo pos (starEach [e] X.env) = (false, eval e X.env) :: backTo pos (starEach [] X.env) := by rfl) (hpl : (backTo pos (starEach [e] X.env)).any (·.1) = false := by rfl)
    (na : starEach [e] X.env = (false, eval e X.env) :: starEach [] X.env := by rfl) :
    PE X (.Call (.Name "sorted" p) [e] [⟨some "key", .Name "len" p2, kpos⟩] pos) (tSortLen X.K te) := by
  refine ⟨fun pins s σ H Q I h => ?_⟩
  refine wpAny_Call_Name_kw (ld_blt (u := .builtin "sorted") I hg hm (by decide +kernel) ?_ (by decide) (by decide))
  have ha := (pa_cons he pa_nil na).run pos pins s σ H (fun vs H1 => ∃ (a : Addr) (xs : List V), vs = [V.ref a] ∧ SqL X.K H1 a xs ∧ (∀ y ∈ xs, ∃ (t : Addr) (zs : List V), y = V.ref t ∧ H1 t = some (.tup zs)) ∧
    ∀ ys p, ByNum (tLen H1) xs ys → H1 p = none → Q (.ref p) (upd H1 p (.lst ys))) I h
  refine PyProof.Rows.callWith_kw (thn ha fun us s1 ⟨vs, H1, I1, r1, q1⟩ => ?_) hst hpl rfl rfl
  obtain ⟨a, xs, rfl, hs, hx, q⟩ := q1
  obtain rfl := Vals.ref1 r1
  show wpAny _ _ (evalAll [do let v ← eval (.Name "len" p2) X.env; standAt pos; pure v]) _ _ s1
  refine wpAny_evalAll_cons (wpAny_bind (ld_blt (u := .builtin "len") I1 hg2 hm2 PySem.boot_len (wpAny_bind (wpAny_standAt (wpAny_pure (wpAny_evalAll_nil ?_))))))
  obtain ⟨its, rv, hl, hz⟩ := I1.list hs
  obtain ⟨e1, e2⟩ := refs_back rv fun x m => by
    obtain ⟨t, zs, e, _⟩ := hx x m
    exact ⟨t, e⟩
  show wpAny _ _ (call (.builtin "sorted") [.ref a] [(Str.ofString "key", .builtin "len")]) _ _ s1
  refine sorted_num (kf := fun v => tLen H1 (backV v)) hl.isList (by rw [← rv.length]; exact hz) (fun v hv s' Q' kp qq => ?_) fun out h' tk c B kp g => ?_
  · obtain ⟨t, rfl⟩ := e2 v hv
    have hm : V.ref t ∈ xs := by rw [e1]; exact List.mem_map.mpr ⟨_, hv, rfl⟩
    obtain ⟨t', zs, e, ht⟩ := hx _ hm
    cases e
    obtain ⟨hz2, its2, r2, o, ho, hc, n, hd⟩ := I1.hok _ _ ht
    have hl2 := r2.length
    have hb : sizeLine = 16777216 := sizeLine_eq
    refine PyProof.Rows.len_tuple (items := its2.toArray) ⟨o, kp _ _ ho, hc, n, hd⟩ (by simp only [List.size_toArray]; omega) ?_
    have := qq (s'.toks + 1) (s'.toks + 1 + 1)
    rw [backV_ref, tLen_at ht, hl2] at this
    simpa using this
  · have h3 : ∀ u ∈ out, ∃ a, u = Value.ref a := fun u hu => e2 u (B.perm.mem_iff.mp hu)
    have B2 : ByNum (tLen H1) xs (out.map backV) := by
      have := ByNum.map (kf := tLen H1) backV B
      rw [← e1] at this
      exact this
    refine ⟨.ref _, upd H1 (s1.heap.objs.size + 1) (.lst (out.map backV)), I1.laid (t' := tk) kp (Nat.le_succ _) ⟨?_, out, c, vals_back h3, g⟩, rfl, q _ _ B2 (I1.hok.fresh (Nat.le_succ _))⟩
    rw [B2.perm.length_eq]
    exact hz
end
end NuR
end
/-! # NuR18 -/
section
set_option Elab.async false
set_option maxRecDepth 100000
set_option maxHeartbeats 4000000
set_option linter.all false
namespace NuR
open PySem PySem.Spec PyProof.Rows L2
section
variable {prog : Program} {w : World} {K : Type} [DecidableEq K] {knd : HeapKind prog w K} {A : Around} {E : Value → Shared → Prop} {s : Shared}
theorem setdefault_heap {d a : Addr} {xs : List (K × Addr × Value)} {k : K} {v : Value} {Q : Value → Shared → Prop} (hu : knd.room A) (hkey : knd.is s.heap k a) (hm : s.heap.DictOfH knd d xs) (hsz : xs.length ≤ sizeLine)
    (h1 : ∀ p tk, atKey xs k = some p → Q p.2 { s with toks := tk })
    (h2 : atKey xs k = none → ∀ h' tk, h'.DictOfH knd d (storedH xs k a v) → Heap.SameBut d s.heap h' → Q v { s with heap := h', toks := tk }) :
    wpAny (model prog w) A (dictSetDefault d (.ref a) v) Q E s := by
  obtain ⟨o, es, ep, ho, hc, hd, he, his, hn⟩ := hm
  have hes := size_of_entries he
  unfold dictSetDefault
  try with_reducible refine wpAny_holding ?_
  refine wpAny_bind (knd.pyHash hu hkey (wpAny_bind (wpAny_dictFind_heap (s := { s with toks := s.toks + knd.draws k }) hu hkey ho hd he his hn (fun hno => ?_) fun j p hj => ?_)))
  · have hat := atKey_none_of_get hno
    refine wpAny_bind (wpAny_rule (wpAny_bind (wpAny_updateDictKeys (hz := by omega) (s := { s with toks := s.toks + knd.draws k }) ho hd (wpAny_pure (h2 hat _ _ ⟨_, _, ep + 1, Heap.get?_update_self _ ho (Obj.isFreed_of_dict (Obj.data_mapDictKeys hd _)), hc.mapDictKeys _, Obj.data_mapDictKeys hd _, ?_, fun x hx => ?_, ?_⟩ (Heap.SameBut.update ..))))))
    · rw [storedH_new hat]
      simp [he, entryOfKey]
    · rw [storedH_new hat] at hx
      rcases List.mem_append.mp hx with hx | hx
      · exact knd.keeps (his x hx) ho hd (Heap.SameBut.update ..)
      · rw [List.mem_singleton.mp hx]
        exact knd.keeps hkey ho hd (Heap.SameBut.update ..)
    · rw [storedH_new hat, List.map_append, List.nodup_append]
      refine ⟨hn, by simp, fun x hx y hy e => ?_⟩
      have ey : y = k := by simpa using hy
      rw [e, ey] at hx
      exact not_mem_keys_of_get hno hx
  · have hej : es[j]? = some (entryOfKey knd (k, p)) := by rw [entry_at he j, hj]; rfl
    refine wpAny_bind (wpAny_dictEntries (s := { s with toks := s.toks + knd.draws k }) ho hd ?_)
    rw [hej]
    exact wpAny_bind (wpAny_rule (wpAny_pure (h1 p _ (atKey_of_get hn hj))))
theorem meets_setd {d a : Addr} {k : K} {v : Value} (hd : (d == sysModules) = false) :
    MeetsIn prog w (Builtin.«dict.setdefault» ⟨[.ref d, .ref a, v], []⟩) (fun A R s => ∃ xs, knd.room A.in1 ∧ knd.is s.heap k a ∧ s.heap.DictOfH knd d xs ∧ xs.length ≤ sizeLine ∧ (∀ p tk, atKey xs k = some p → R (.ok (.ret p.2)) { s with toks := tk }) ∧
      (atKey xs k = none → ∀ h' tk, h'.DictOfH knd d (storedH xs k a v) → Heap.SameBut d s.heap h' → R (.ok (.ret v)) { s with heap := h', toks := tk })) :=
  .of_wp fun A R s ⟨xs, hu, hkey, hm, hsz, h1, h2⟩ => by
    unfold Builtin.«dict.setdefault» Builtin.Dict.keyAndDefault
    refine wpAny_bind (wpAny_bind (wpAny_notOrdered_dict hm.typeIs (show wpAny _ _ (pure (d, Value.ref a, some v)) _ _ s from wpAny_pure ?_)))
    refine (show wpAny _ _ (if (d == sysModules) = true then _ else (dictSetDefault d (.ref a) v >>= _)) _ _ s from ?_)
    rw [if_neg (by rw [hd]; exact Bool.false_ne_true)]
    exact wpAny_bind (setdefault_heap hu hkey hm hsz (fun p tk hp => wpAny_pure ⟨_, rfl, h1 p tk hp⟩) fun hn h' tk dd hs => wpAny_pure ⟨_, rfl, h2 hn h' tk dd hs⟩)
end
section
variable {X : Cx}
def rSetdT : V → List V → Hp → VK → Prop := fun x xs H Q => ∃ (a : Addr) (kvs : List (List L2.Key × V)) (k : List L2.Key) (b : Addr) (d : V), x = .ref a ∧ xs = [.ref b, d] ∧ H a = some (.dT kvs) ∧ H b = some (.tup (k.map kV)) ∧ kvs.length < sizeLine ∧
  (∀ v, valV kvs k = some v → Q v H) ∧ (valV kvs k = none → Q d (upd H a (.dT (kvs ++ [(k, d)]))))
theorem mt_setdT (hu : X.A.units + 1 < cLine) : MtR X "dict.setdefault" rSetdT := by
  intro pins s σ H x xs v us Q I rx rxs h
  obtain ⟨a, kvs, k, b, d, rfl, rfl, ha, hb, hl, q1, q2⟩ := h
  cases rx
  obtain ⟨u1, u2, rfl, r1, r2⟩ := vals2 rxs
  cases r1
  obtain ⟨z, hd, xs', rel, dd⟩ := dt_of I.hok ha
  have hz : xs'.length ≤ sizeLine := by rw [← Paired.length rel]; exact z
  refine call_meetsIn PySem.F.slot_dict_setdefault dd.typeIs PySem.F.entry_dict_setdefault (PySem.F.args_dict_setdefault_3 _ _ _) (meets_setd (knd := tupleKind (mixKind X.prog X.w)) (k := k) hd)
    ⟨xs', tupleKind_room_in1 hu, key_of I.hok hb, dd, hz, fun p tk hp => ?_, fun hn h' tk dd' hs => ?_⟩
  · have r := rel.val k
    rw [hp] at r
    obtain ⟨v0, ev, rv⟩ : ∃ v0, valV kvs k = some v0 ∧ RelV v0 p.2 := by
      cases ev : valV kvs k with
      | none => rw [ev] at r; exact (show False from r).elim
      | some v0 => rw [ev] at r; exact ⟨v0, rfl, r⟩
    show EP X pins σ Q p.2 _
    exact ⟨v0, H, I.tok tk, rv, q1 v0 ev⟩
  · have r := rel.val k
    rw [hn] at r
    have e : valV kvs k = none := by
      cases ev : valV kvs k with
      | none => rfl
      | some v0 => rw [ev] at r; exact (show False from r).elim
    have ep' : putK kvs k d = kvs ++ [(k, d)] := by
      unfold putK
      rw [if_neg (by rw [valV_any, e]; simp)]
    have KP := KT.put rel k hb r2
    rw [ep'] at KP
    obtain ⟨o, es, ep, hq, h2, h3, h4, _, h5⟩ := dd'
    have hl2 : (kvs ++ [(k, d)]).length ≤ sizeLine := by rw [List.length_append]; exact hl
    have I2 : Inv X pins σ (upd H a (.dT (kvs ++ [(k, d)]))) { s with heap := h', toks := tk } :=
      d_write I (by rw [ha]; exact True.intro) hs ⟨o, hq⟩ ⟨hl2, hd, _, KP.keeps (fun c ys ec => (by rw [upd_ne (ne_of ec ha (fun z => nomatch z))]; exact ec)), o, es, ep, hq, h2, h3, h4, h5⟩
    show EP X pins σ Q u2 _
    exact ⟨d, _, I2, r2, q2 e⟩
end
end NuR
end
/-! # NuP27 -/
section
set_option Elab.async false
set_option maxRecDepth 100000
set_option maxHeartbeats 4000000
set_option linter.all false
namespace NuP
open PySem PySem.Spec PyProof.Rows L2
open Sq63 (Net Places Transition Unfolding House)
variable {P : Program} {w : World} {K : PySem.W.Frag} {mg : Str → Option Value} {base : Heap}
/-! ### rows_that_can_have_happened -/
abbrev sRws : Stmt := top 23
abbrev nRws : List Str := ["unfolding", "rows", "number", "event", "used", "made", "longer", "row", "there"]
theorem scRws : FnScope nRws ["unfolding"] (defScope sRws) := ⟨rfl, rfl, rfl, by decide +kernel, rfl, by decide +kernel, by decide +kernel⟩
def spRws (c : Cs) : Sp := fun vs H Q _ => ∃ (x : Addr) (l : Lay) (g : Net) (m0 : Places) (u : Unfolding) (B : List Nat), vs = [.ref x] ∧ UnfAt c l H x g m0 u B ∧ UnfOk g m0 u B ∧ NetFit g m0 ∧
  ∀ (H' : Hp) (p : Addr) (as : List Addr), Same H H' → H p = none → H' p = some (.lst (as.map V.ref)) → AllAt (TupAt H') as ((Nu.rowsTo u u.events.length).map (·.1)) → Q (.ref p) H'
theorem next_take {u : Unfolding} {e j : Nat} {R : List (List Nat × Nat)} {r : List Nat × Nat} (h : R[j]? = some r) : Nu.rowNext u e (R.take (j + 1)) = Nu.rowNext u e (R.take j) ++ if decide (r.2 &&& Nu.pows (Nu.usedOf u e) = Nu.pows (Nu.usedOf u e)) = true then [(r.1 ++ [e], r.2 - Nu.pows (Nu.usedOf u e) + Nu.pows (Nu.madeOf u e))] else [] := by
  unfold Nu.rowNext
  rw [filter_take h, List.map_append]
  congr 1
  by_cases q : decide (r.2 &&& Nu.pows (Nu.usedOf u e) = Nu.pows (Nu.usedOf u e)) = true
  · rw [if_pos q, if_pos q]; rfl
  · rw [if_neg q, if_neg q]; rfl
theorem next_le {u : Unfolding} {e j : Nat} {R : List (List Nat × Nat)} : (Nu.rowNext u e (R.take j)).length ≤ j := by
  unfold Nu.rowNext
  rw [List.length_map]
  refine Nat.le_trans (List.length_filter_le ..) ?_
  rw [List.length_take]
  omega
theorem range_small {n : Nat} (p : Nat → Bool) (h : n ≤ 1000) : ((List.range n).filter p).length ≤ 1000 ∧ ∀ c, c ∈ (List.range n).filter p → c ≤ 1000 := by
  refine ⟨?_, fun c hc => ?_⟩
  · have := List.length_filter_le p (List.range n)
    rw [List.length_range] at this
    omega
  · have := List.mem_range.mp (List.mem_filter.mp hc).1
    omega
theorem ok_rws {c : Cs} {f fB : Addr} {fd fdB : FuncData} (F : Fun K "rows_that_can_have_happened" "rows_that_can_have_happened" sRws f fd) (TU : ClsT K mg "Unfolding" c.U uN) (TE : ClsT K mg "Event" c.E evN) (gEnu : mg "enumerate" = none)
    (GB : FnOk P w K mg base CX0 1 fB fdB ["conditions"] (spBit K)) (bB : Binds K fdB ["conditions"] []) (gB : mg "bits_of" = some (.ref fB)) (kB : PySem.W.keepIn K (.ref fB) = true) : FnOk P w K mg base CX0 2 f fd ["unfolding"] (spRws c) := by
  refine F.ok scRws (fun vs H Q E h => ?_) (fun cdv A outer s H vs Q E hr h => ?_)
  · obtain ⟨x, l, g, m0, u, B, rfl, _⟩ := h
    rfl
  · obtain ⟨x, l, g, m0, u, B, rfl, U, O, N, q⟩ := h
    refine ⟨_, pss_cons (ps_set (i := 1) scRws.nd rfl (Or.inl rfl) (pe_lst (pa_cons (pe_tup (pa_cons (pe_tup pa_nil) (pa_cons (pe_call GB hr rfl gB kB bB .nil pass0 (pa_cons (pe_fld (pv 0) rfl) pa_nil)) pa_nil))) pa_nil)))
      (pss_cons (ps_for PassesOwn.never rfl (pi_enum (by rfl) gEnu (pa_cons (pe_fld (pv 0) rfl) pa_nil)) (pg_tup rfl (pgs_cons (pg_name (i := 2) scRws.nd rfl (Or.inr rfl)) (pgs_cons (pg_name (i := 3) scRws.nd rfl (Or.inl rfl)) pgs_nil)))
        (pss_cons (ps_if (pt_val (pe_fld (pv 3) rfl)) (pss_one ps_continue) pss_nil)
        (pss_cons (ps_set (i := 4) scRws.nd rfl (Or.inr rfl) (pe_call GB hr rfl gB kB bB .nil pass0 (pa_cons (pe_fld (pv 3) rfl) pa_nil)))
        (pss_cons (ps_set (i := 5) scRws.nd rfl (Or.inr rfl) (pe_call GB hr rfl gB kB bB .nil pass0 (pa_cons (pe_fld (pv 3) rfl) pa_nil)))
        (pss_cons (ps_setLc (i := 6) (own := [("row", 7), ("there", 8)]) (g := gTup K 2 (gCons (gName 7) (gCons (gName 8) gNil))) (tt := tTest (tOp rEq (tOp (rI0 fun i j => .int (Builtin.bitAnd i j)) (tVar 8) (tVar 4)) (tVar 4)))
            (te := tTup (tCons (tOp (rCatA K) (tVar 7) (tTup (tCons (tVar 2) tNil))) (tCons (tOp (rI0 fun i j => .int (i + j)) (tOp (rI0 fun i j => .int (i - j)) (tVar 8) (tVar 4)) (tVar 5)) tNil))) rfl scRws.nd rfl rfl (sw_true rfl rfl rfl (by decide +kernel)) (pi_list (pv 1)) (blkOk_by (own := [("row", 7), ("there", 8)]) (N := nRws) (sc := defScope sRws) (by decide +kernel))
            (fun _ _ _ _ _ => pg_tup rfl (pgs_cons (pg_name (i := 7) scRws.nd rfl (Or.inl rfl)) (pgs_cons (pg_name (i := 8) scRws.nd rfl (Or.inl rfl)) pgs_nil))) (fun _ _ _ _ _ => pts_one (pt_cmpR op_eq (pe_op op_and (pv 8) (pv 4)) (pv 4) (nomark _)))
            (fun _ _ _ _ _ => pe_tup (pa_cons (pe_op op_catA (pv 7) (pe_tup (pa_cons (pv 2) pa_nil))) (pa_cons (pe_op op_add (pe_op op_sub (pv 8) (pv 4)) (pv 5)) pa_nil))))
        (pss_one (ps_set (i := 1) scRws.nd rfl (Or.inl rfl) (pe_op op_cat (pv 1) (pv 6)))))))))
      (pss_one (ps_ret (pe_lc (own := [("row", 7), ("there", 8)]) (g := gTup K 2 (gCons (gName 7) (gCons (gName 8) gNil))) (tt := tYes) (te := tVar 7) rfl scRws.nd (pi_list (pv 1)) (blkOk_by (own := [("row", 7), ("there", 8)]) (N := nRws) (sc := defScope sRws) (by decide +kernel))
        (fun _ _ _ _ _ => pg_tup rfl (pgs_cons (pg_name (i := 7) scRws.nd rfl (Or.inl rfl)) (pgs_cons (pg_name (i := 8) scRws.nd rfl (Or.inl rfl)) pgs_nil))) (fun _ _ _ _ _ => pts_nil) (fun _ _ _ _ _ => pv 7))))), ?_⟩
    have fU : ∀ k i v, uN.findIdx? (· == k) = some i → (uF l)[i]?.map (·.2) = some v → Has (uF l) k v := fun k i v h1 h2 => look (ns := uN) i rfl h1 h2
    have hx := (wo_at U.ux).1
    have e40 := O.e40
    have csz := O.csz
    have gf : ListAt H l.fst (Nu.firstOf u) := (wo_at U.uf).1
    have sm := range_small (n := u.conds.length) (fun c => Nu.makerOf u c == none) (by omega)
    refine ⟨by show 0 ≤ sizeLine; decide, fun p1 n1 => ?_⟩
    have s1 : ∀ o, Same H (upd H p1 o) := fun o => snew (Same.refl _) n1
    refine ⟨_, rfl, x, c.U, l.dx, uF l, _, rfl, s1 _ _ _ hx, TU.cl, TU.no _ (by decide +kernel), fU "first_conditions" 5 _ (by decide +kernel) rfl, l.fst, true, Nu.firstOf u, rfl, SqL.of (s1 _ _ _ gf), sm.1, sm.2, fun H2 s2 => ?_⟩
    refine ⟨by show 2 ≤ sizeLine; decide, fun p2 n2 => ⟨by show 1 ≤ sizeLine; decide, fun p3 n3 => ?_⟩⟩
    have s02 := (s1 (.tup [])).trans s2
    have s3 : Same H (upd (upd H2 p2 (.tup [.ref p1, natV (Nu.pows (Nu.firstOf u))])) p3 (.lst [.ref p2])) := snew (snew s02 n2) n3
    have gp1 : TupAt H2 p1 [] := s2 _ _ upd_same
    have len8 : ∀ k, k ≤ u.events.length → (Nu.rowsTo u k).length ≤ 6 ^ 8 := fun k hk => Nu.rowsTo_len O.good N.ok N.safe N.t8 e40 hk
    have lenE : (l.es.map V.ref).length = u.events.length := by rw [List.length_map, U.uE.len, evD_len]
    refine ⟨_, rfl, x, c.U, l.dx, uF l, _, rfl, s3 _ _ hx, TU.cl, TU.no _ (by decide +kernel), fU "events" 1 _ (by decide +kernel) rfl, l.evs, _, rfl, SqL.of (s3 _ _ U.ue), ?_⟩
    refine for_it (walk_enum (K := K) (a := l.evs) (xs := l.es.map V.ref)) (fun i σ H' => Same H H' ∧ ∃ (R : Addr) (as : List Addr), (∃ v2 v3 v4 v5 v6 v7 v8, σ = [some (.ref x), some (.ref R), v2, v3, v4, v5, v6, v7, v8]) ∧ H R = none ∧ H' R = some (.lst (as.map V.ref)) ∧ AllAt (RowAt H') as (Nu.rowsTo u i)) ?_ ?_ ?_ ?_
    · refine ⟨s3, p3, [p2], ⟨_, _, _, _, _, _, _, rfl⟩, (snew s02 n2).free n3, upd_same, ?_⟩
      refine AllAt.snoc (as := []) (xs := []) AllAt.nil ⟨p1, ?_, ?_⟩
      · rw [upd_ne (ne_of_none upd_same n3), upd_same]
      · exact (snew (snew (Same.refl _) n2) n3) _ _ gp1
    · rintro i σ H' _ ⟨s1, _⟩
      exact SqL.of (s1 _ _ U.ue)
    · rintro i y σ H1 H1' hi ⟨s1, R, as, ⟨v2, v3, v4, v5, v6, v7, v8, rfl⟩, nR, gR, hR⟩ ⟨T, a, b, rfl, nT, rfl, ha, hb⟩
      cases ha
      have hb : (l.es.map V.ref)[i]? = some b := hb
      obtain ⟨ea, hea, rfl⟩ := refs_get hb
      obtain ⟨d, hd, hE⟩ := U.uE.get' hea
      obtain ⟨de, us, md, nd, mk, g1, g2, g3, g4, g5⟩ := hE.same wo_same
      rw [evD_get] at hd
      obtain ⟨ev, hev, rfl⟩ := Option.map_eq_some_iff.mp hd
      have hil := (List.getElem?_eq_some_iff.mp hev).1
      have s1' : Same H (upd H1 T (.tup [.int (i : Nat), .ref ea])) := snew s1 nT
      have sT : Same H1 (upd H1 T (.tup [.int (i : Nat), .ref ea])) := snew (Same.refl _) nT
      have gT : upd H1 T (.tup [.int (i : Nat), .ref ea]) T = some (.tup [.int (i : Nat), .ref ea]) := upd_same
      have gR1 := sT _ _ gR
      have hR1 : AllAt (RowAt (upd H1 T (.tup [.int (i : Nat), .ref ea]))) as (Nu.rowsTo u i) := hR.mono fun a z _ h => h.same sT
      generalize upd H1 T (.tup [.int (i : Nat), .ref ea]) = H2 at s1' gT gR1 hR1 ⊢
      have hcut : Nu.cutE u i = ev.cut := by unfold Nu.cutE; rw [hev]; rfl
      have eused : Nu.usedOf u i = ev.used := Nu.usedOf_some hev
      refine ⟨T, _, rfl, SqT.of gT, rfl, _, _, rfl, _, _, rfl, rfl, ?_⟩
      refine ⟨_, rfl, ea, c.E, de, _, _, rfl, s1' _ _ g1, TE.cl, TE.no _ (by decide +kernel), look (ns := evN) 5 rfl (by decide +kernel) rfl, _, rfl, ?_⟩
      cases hc : ev.cut with
      | true =>
        refine iteT ⟨s1', R, as, ⟨_, _, _, _, _, _, _, rfl⟩, nR, gR1, ?_⟩
        show AllAt _ _ (if Nu.cutE u i = true then Nu.rowsTo u i else _)
        rw [hcut, hc, if_pos rfl]
        exact hR1
      | false =>
        have eR : Nu.rowsTo u (i + 1) = Nu.rowsTo u i ++ Nu.rowNext u i (Nu.rowsTo u i) := by
          show (if Nu.cutE u i = true then Nu.rowsTo u i else _) = _
          rw [hcut, hc, if_neg (by simp)]
        have hul := used_len N O.good hev
        have ult : ∀ c, c ∈ ev.used → c ≤ 1000 := fun c hc => by
          have := O.good.used_lt (e := i) (c := c) (by rw [eused]; exact hc)
          omega
        have mm := range_small (n := u.conds.length) (fun c => Nu.makerOf u c == some i) (by omega)
        refine iteF ⟨_, rfl, ea, c.E, de, _, _, rfl, s1' _ _ g1, TE.cl, TE.no _ (by decide +kernel), look (ns := evN) 1 rfl (by decide +kernel) rfl, us, false, ev.used, rfl, SqT.of (s1' _ _ g2), by omega, ult, fun H3 s23 => ?_⟩
        have s03 := s1'.trans s23
        refine ⟨_, rfl, ea, c.E, de, _, _, rfl, s03 _ _ g1, TE.cl, TE.no _ (by decide +kernel), look (ns := evN) 2 rfl (by decide +kernel) rfl, md, true, Nu.madeOf u i, rfl, SqL.of (s03 _ _ g3), mm.1, mm.2, fun H4 s34 => ?_⟩
        have s04 := s03.trans s34
        have s24 := s23.trans s34
        have gR4 := s24 _ _ gR1
        have hR4 : AllAt (RowAt H4) as (Nu.rowsTo u i) := hR1.mono fun a z _ h => h.same s24
        have hlen := len8 i (by omega)
        have hlen1 := len8 (i + 1) (by omega)
        have rok := Nu.rows_ok O.good N.ok i (by omega)
        rw [← eused]
        refine ⟨_, rfl, R, rfl, ⟨_, SqL.of gR4⟩, fun D nD => ?_⟩
        have lenA : (as.map V.ref).length = (Nu.rowsTo u i).length := by rw [List.length_map, hR4.len]
        refine lc_it (walk_list (K := K) (a := R) (xs := as.map V.ref)) (fun j H' => Same H4 H' ∧ ∃ bs : List Addr, H' D = some (.lst (bs.map V.ref)) ∧ AllAt (RowAt H') bs (Nu.rowNext u i ((Nu.rowsTo u i).take j))) ⟨snew (Same.refl _) nD, [], upd_same, AllAt.nil⟩ (fun j H' _ h => SqL.of (h.1 _ _ gR4)) ?_ ?_
        · rintro j y H5 H5' hj ⟨s5, bs, gD, hD⟩ ⟨rfl, hy⟩
          obtain ⟨ra, hra, rfl⟩ := refs_get hy
          obtain ⟨r, hr', b, hb1, hb2⟩ := hR4.get' hra
          have hjl := (List.getElem?_eq_some_iff.mp hr').1
          have nt := next_take (u := u) (e := i) hr'
          have bl : bs.length ≤ j := by rw [hD.len]; exact next_le
          have rl : r.1.length ≤ 40 := by
            have := ((rok.mem r.1).mp (List.mem_map.mpr ⟨r, List.mem_of_getElem? hr', rfl⟩)).1.len
            omega
          refine ⟨ra, _, rfl, SqT.of (s5 _ _ hb1), rfl, _, _, rfl, _, _, rfl, rfl, rfl, ?_⟩
          refine ⟨_, rfl, _, rfl, _, _, rfl, rfl, _, rfl, rfl, _, rfl, ?_⟩
          have et : decide (V.int (Builtin.bitAnd ((r.2 : Nat) : Int) ((Nu.pows (Nu.usedOf u i) : Nat) : Int)) = V.int ((Nu.pows (Nu.usedOf u i) : Nat) : Int)) = decide (r.2 &&& Nu.pows (Nu.usedOf u i) = Nu.pows (Nu.usedOf u i)) := by
            rw [and_nats, decide_eq_decide]
            constructor
            · intro z
              have := V.int.inj z
              omega
            · intro z
              rw [z]
          dsimp only
          rw [et]
          by_cases t : r.2 &&& Nu.pows (Nu.usedOf u i) = Nu.pows (Nu.usedOf u i)
          · rw [decide_eq_true t] at nt ⊢
            rw [if_pos rfl] at nt
            refine iteT ⟨_, rfl, _, rfl, by show 1 ≤ sizeLine; decide, fun q1 m1 => ?_⟩
            have sq : Same H5' (upd H5' q1 (.tup [natV i])) := snew (Same.refl _) m1
            have hle : Nu.pows (Nu.usedOf u i) ≤ r.2 := by
              have h1 : r.2 &&& Nu.pows (Nu.usedOf u i) ≤ r.2 := Nat.and_le_left
              rw [t] at h1
              exact h1
            have ev2 : (((r.2 : Nat) : Int) - ((Nu.pows (Nu.usedOf u i) : Nat) : Int)) + ((Nu.pows (Nu.madeOf u i) : Nat) : Int) = ((r.2 - Nu.pows (Nu.usedOf u i) + Nu.pows (Nu.madeOf u i) : Nat) : Int) := by
              rw [Int.natCast_add, Int.ofNat_sub hle]
            have fin : ∀ (q2 : Addr) (H6 : Hp), Same H5' H6 → TupAt H6 q2 (r.1 ++ [i]) → ∀ q3, H6 q3 = none → ∃ acc, upd H6 q3 (.tup [.ref q2, .int ((((r.2 : Nat) : Int) - ((Nu.pows (Nu.usedOf u i) : Nat) : Int)) + ((Nu.pows (Nu.madeOf u i) : Nat) : Int))]) D = some (.lst acc) ∧ acc.length < sizeLine ∧ Same H4 (upd (upd H6 q3 (.tup [.ref q2, .int ((((r.2 : Nat) : Int) - ((Nu.pows (Nu.usedOf u i) : Nat) : Int)) + ((Nu.pows (Nu.madeOf u i) : Nat) : Int))])) D (.lst (acc ++ [.ref q3]))) ∧
                ∃ bs : List Addr, upd (upd H6 q3 (.tup [.ref q2, .int ((((r.2 : Nat) : Int) - ((Nu.pows (Nu.usedOf u i) : Nat) : Int)) + ((Nu.pows (Nu.madeOf u i) : Nat) : Int))])) D (.lst (acc ++ [.ref q3])) D = some (.lst (bs.map V.ref)) ∧ AllAt (RowAt (upd (upd H6 q3 (.tup [.ref q2, .int ((((r.2 : Nat) : Int) - ((Nu.pows (Nu.usedOf u i) : Nat) : Int)) + ((Nu.pows (Nu.madeOf u i) : Nat) : Int))])) D (.lst (acc ++ [.ref q3])))) bs (Nu.rowNext u i ((Nu.rowsTo u i).take (j + 1))) := by
              intro q2 H6 s6 g6 q3 m3
              rw [ev2]
              have gD6 : H6 D = some (.lst (bs.map V.ref)) := s6 _ _ gD
              have h3D : q3 ≠ D := Ne.symm (ne_of_none gD6 m3)
              have sn : ∀ o, Same H6 (upd H6 q3 o) := fun o => snew (Same.refl _) m3
              have kD : ∀ o, Keep [D] H5' (upd (upd H6 q3 (.tup [.ref q2, natV (r.2 - Nu.pows (Nu.usedOf u i) + Nu.pows (Nu.madeOf u i))])) D o) := fun o => Keep.upd (Keep.same (s6.trans (sn _))) (Or.inl (by simp))
              refine ⟨_, sn _ _ _ gD6, ?_, Same.upd' ((s5.trans s6).trans (sn _)) nD, bs ++ [q3], by rw [upd_same, List.map_append]; rfl, ?_⟩
              · rw [List.length_map]
                exact big8 (Nat.le_trans bl (Nat.le_trans (Nat.le_of_lt hjl) hlen))
              · rw [nt]
                refine AllAt.snoc (hD.mono fun a r' _ h => h.keep (kD _) gD) ⟨q2, ?_, ?_⟩
                · rw [upd_ne h3D, upd_same]
                · have h2D : q2 ≠ D := fun e => by
                    rw [e] at g6
                    rw [show H6 D = _ from g6] at gD6
                    cases gD6
                  show upd _ D _ q2 = _
                  rw [upd_ne h2D]
                  exact sn _ _ _ g6
            refine ⟨b, q1, nats r.1, [natV i], rfl, rfl, SqT.of (sq _ _ (s5 _ _ hb2)), SqT.of upd_same, ?_, ?_, fun _ h => (by cases h), ?_⟩
            · rw [nats_len]
              exact sz400 (show r.1.length + 1 ≤ 1000 by omega)
            · intro e0
              have e0 : r.1 = [] := List.map_eq_nil_iff.mp e0
              exact ⟨_, rfl, _, rfl, _, _, rfl, rfl, _, rfl, _, _, rfl, rfl, by show 2 ≤ sizeLine; decide, fun q3 m3 => fin q1 _ sq (by rw [e0]; exact upd_same) q3 m3⟩
            · intro _ _ q2 m2
              exact ⟨_, rfl, _, rfl, _, _, rfl, rfl, _, rfl, _, _, rfl, rfl, by show 2 ≤ sizeLine; decide, fun q3 m3 => fin q2 _ (snew sq m2) (upd_same.trans (by rw [nats_app]; rfl)) q3 m3⟩
          · rw [decide_eq_false t] at nt ⊢
            rw [if_neg (by simp), List.append_nil] at nt
            refine iteF ⟨s5, bs, gD, ?_⟩
            rw [nt]
            exact hD
        · rintro H5 ⟨s5, bs, gD, hD⟩
          rw [lenA, List.take_length] at hD
          have gR5 := s5 _ _ gR4
          refine ⟨_, rfl, _, rfl, R, D, _, _, rfl, rfl, gR5, gD, ?_, fun p6 n6 => ?_⟩
          · rw [List.length_map, List.length_map, hR4.len, hD.len, ← List.length_append, ← eR]
            exact Nat.le_of_lt (big8 hlen1)
          · have s6 : Same H5 (upd H5 p6 (.lst (as.map V.ref ++ bs.map V.ref))) := snew (Same.refl _) n6
            refine ⟨(s04.trans s5).trans s6, p6, as ++ bs, ⟨_, _, _, _, _, _, _, rfl⟩, (s04.trans s5).free n6, by rw [upd_same, List.map_append], ?_⟩
            rw [eR]
            exact AllAt.app (hR4.mono fun a z _ h => h.same (s5.trans s6)) (hD.mono fun a z _ h => h.same s6)
    · rintro σ H1 ⟨s1, R, as, ⟨v2, v3, v4, v5, v6, v7, v8, rfl⟩, nR, gR, hR⟩
      rw [lenE] at hR
      have hb := len8 u.events.length (Nat.le_refl _)
      refine ⟨_, rfl, R, rfl, ⟨_, SqL.of gR⟩, fun D nD => ?_⟩
      refine lc_it (walk_list (K := K) (a := R) (xs := as.map V.ref)) (fun j H' => Same H1 H' ∧ ∃ bs : List Addr, H' D = some (.lst (bs.map V.ref)) ∧ AllAt (TupAt H') bs (((Nu.rowsTo u u.events.length).take j).map (·.1))) ⟨snew (Same.refl _) nD, [], upd_same, AllAt.nil⟩ (fun j H' _ h => SqL.of (h.1 _ _ gR)) ?_ ?_
      · rintro j y H2 H2' hj ⟨s2, bs, gD, hD⟩ ⟨rfl, hy⟩
        obtain ⟨ra, hra, rfl⟩ := refs_get hy
        obtain ⟨r, hr', b, hb1, hb2⟩ := hR.get' hra
        refine ⟨ra, _, rfl, SqT.of (s2 _ _ hb1), rfl, _, _, rfl, _, _, rfl, rfl, rfl, ?_⟩
        unfold tYes
        dsimp only
        rw [if_pos rfl]
        refine ⟨_, rfl, _, gD, ?_, Same.upd' s2 nD, bs ++ [b], by rw [upd_same, List.map_append]; rfl, ?_⟩
        · rw [List.length_map, hD.len, List.length_map, List.length_take]
          exact big8 (Nat.le_trans (Nat.min_le_right _ _) hb)
        · rw [take1 hr', List.map_append]
          refine AllAt.snoc (hD.mono fun a r' _ h => ?_) ?_
          · have hne : a ≠ D := fun e => by
              rw [e] at h
              rw [show H2' D = _ from h] at gD
              cases gD
            exact (upd_ne hne).trans h
          · have hne : b ≠ D := fun e => by
              have := s2 _ _ hb2
              rw [e, gD] at this
              cases this
            exact (upd_ne hne).trans (s2 _ _ hb2)
      · rintro H2 ⟨s2, bs, gD, hD⟩
        rw [List.length_map, hR.len, List.take_length] at hD
        exact q H2 D bs (s1.trans s2) (s1.free nD) gD hD
end NuP
end
/-! # NuP28 -/
section
set_option Elab.async false
set_option maxRecDepth 100000
set_option maxHeartbeats 4000000
set_option linter.all false
namespace NuP
open PySem PySem.Spec PyProof.Rows L2
open Sq63 (Net Places Transition Unfolding House)
variable {P : Program} {w : World} {K : PySem.W.Frag} {mg : Str → Option Value} {base : Heap}
/-! ### rows by their addresses -/
/-- the row of numbers that stands there -/
def rowAt (H : Hp) (a : Addr) : List Nat := (NuR.tInts H (.ref a)).map Int.toNat
theorem rowAt_of {H : Hp} {a : Addr} {r : List Nat} (h : TupAt H a r) : rowAt H a = r := by
  unfold rowAt
  rw [NuR.tInts_at (ns := r.map Int.ofNat) (by rw [show H a = _ from h, nats_ints]), List.map_map]
  exact (List.map_congr_left fun n _ => rfl).trans (map_self r)
theorem tInts_of {H : Hp} {a : Addr} {r : List Nat} (h : TupAt H a r) : NuR.tInts H (.ref a) = r.map Int.ofNat := NuR.tInts_at (by rw [show H a = _ from h, nats_ints])
theorem AllAt.eq_map {H : Hp} : ∀ {as : List Addr} {L : List (List Nat)}, AllAt (TupAt H) as L → L = as.map (rowAt H) := fun {as L} h => by
  refine List.ext_getElem? fun i => ?_
  rw [List.getElem?_map]
  cases e : as[i]? with
  | none =>
    have := List.getElem?_eq_none_iff.mp e
    rw [List.getElem?_eq_none (by rw [← h.len]; exact this)]
    rfl
  | some a =>
    obtain ⟨r, hr, ha⟩ := h.get' e
    rw [hr]
    show some r = some (rowAt H a)
    rw [rowAt_of ha]
theorem perm_refs {as : List Addr} : ∀ {ys : List V}, ys.Perm (as.map V.ref) → ∃ bs : List Addr, ys = bs.map V.ref ∧ bs.Perm as := fun {ys} h => by
  let un : V → Addr := fun v => match v with
    | .ref a => a
    | _ => (0 : Nat)
  have e : ∀ l : List Addr, (l.map V.ref).map un = l := fun l => by
    rw [List.map_map]
    exact (List.map_congr_left fun a _ => rfl).trans (map_self l)
  refine ⟨ys.map un, ?_, ?_⟩
  · rw [List.map_map]
    refine (List.map_congr_left fun v hv => ?_).trans (map_self ys) |>.symm
    obtain ⟨a, _, rfl⟩ := List.mem_map.mp (h.mem_iff.mp hv)
    rfl
  · have := h.map un
    rw [e] at this
    exact this
theorem lex_bef : ∀ (a b : List Nat), HT.lexLt (a.map Int.ofNat) (b.map Int.ofNat) = Sq63.before a b
  | [], [] => rfl
  | [], _ :: _ => rfl
  | _ :: _, [] => rfl
  | x :: a, y :: b => by
    rw [List.map_cons, List.map_cons, HT.lexLt_cons, lex_bef a b]
    show _ = (decide (x < y) || (x == y && Sq63.before a b))
    by_cases h : x = y
    · subst h
      simp
    · rw [if_neg (fun e => h (Int.ofNat.inj e))]
      have h1 : (x == y) = false := by simpa using h
      rw [h1, Bool.false_and, Bool.or_false]
      show decide ((x : Int) < (y : Int)) = decide (x < y)
      rw [decide_eq_decide]
      omega
theorem pair_cls {α : Type} (f : α → Int) (R : α → α → Prop) : ∀ (l : List α), (∀ n, (l.filter fun a => decide (f a = n)).Pairwise R) → l.Pairwise fun a b => f a = f b → R a b
  | [], _ => List.Pairwise.nil
  | a :: l, h => by
    refine List.pairwise_cons.mpr ⟨fun b hb e => ?_, pair_cls f R l fun n => ?_⟩
    · have := h (f a)
      rw [List.filter_cons, if_pos (decide_eq_true rfl), List.pairwise_cons] at this
      exact this.1 b (List.mem_filter.mpr ⟨hb, decide_eq_true e.symm⟩)
    · have := h n
      rw [List.filter_cons] at this
      split at this
      · exact (List.pairwise_cons.mp this).2
      · exact this
/-- sorted as rows, then by length: by Fewer -/
theorem sorted_rows {H : Hp} {as : List Addr} {L : List (List Nat)} (hA : AllAt (TupAt H) as L) {ys zs : List V} (h1 : ys.Pairwise fun x y => NuR.ltT H y x = false) (h2 : ys.Perm (as.map V.ref)) (h3 : NuR.ByNum (NuR.tLen H) ys zs) :
    ∃ (bs : List Addr) (R : List (List Nat)), zs = bs.map V.ref ∧ AllAt (TupAt H) bs R ∧ R.Perm L ∧ R.Pairwise fun a b => ¬ Nu.Fewer b a := by
  obtain ⟨bs, rfl, hp⟩ := perm_refs (h3.perm.trans h2)
  have tup : ∀ b, b ∈ bs → TupAt H b (rowAt H b) := fun b hb => by
    obtain ⟨i, hi⟩ := List.mem_iff_getElem?.mp (hp.mem_iff.mp hb)
    obtain ⟨r, _, hr⟩ := hA.get' hi
    rw [rowAt_of hr]
    exact hr
  refine ⟨bs, bs.map (rowAt H), rfl, ⟨by rw [List.length_map], fun i a x ha hx => ?_⟩, ?_, ?_⟩
  · rw [List.getElem?_map, ha] at hx
    cases hx
    exact tup a (List.mem_of_getElem? ha)
  · rw [AllAt.eq_map hA]
    exact hp.map _
  · have o1 := h3.ord
    have o2 := pair_cls (NuR.tLen H) (fun x y => NuR.ltT H y x = false) (bs.map V.ref) fun n => by
      rw [h3.cls n]
      exact h1.filter _
    rw [List.pairwise_map] at o1 o2 ⊢
    refine List.Pairwise.imp_of_mem (fun {a b} ha hb hab => ?_) (o1.and o2)
    obtain ⟨q1, q2⟩ := hab
    have ta := tup a ha
    have tb := tup b hb
    rw [NuR.tLen_at ta, NuR.tLen_at tb, nats_len, nats_len] at q1 q2
    rintro (q | ⟨q, q'⟩)
    · omega
    · have := q2 (by omega)
      unfold NuR.ltT at this
      rw [tInts_of ta, tInts_of tb, lex_bef, q'] at this
      cases this
/-! ### the dict of the ways -/
theorem kvW_key {W : List (List Nat × List Nat)} {as : List Addr} {i : Nat} {p : List Nat × List Nat} {a : Addr} (h1 : W[i]? = some p) (h2 : as[i]? = some a) : (kvW W as)[i]? = some (mk p.1, V.ref a) := by
  unfold kvW
  rw [List.getElem?_map, List.getElem?_zip_eq_some (z := (p, a)) |>.mpr ⟨h1, h2⟩]
  rfl
theorem kvW_mem {W : List (List Nat × List Nat)} {as : List Addr} {q : List Key × V} (h : q ∈ kvW W as) : ∃ (i : Nat) (p : List Nat × List Nat) (a : Addr), W[i]? = some p ∧ as[i]? = some a ∧ q = (mk p.1, V.ref a) := by
  unfold kvW at h
  obtain ⟨⟨p, a⟩, h1, rfl⟩ := List.mem_map.mp h
  obtain ⟨i, hi⟩ := List.mem_iff_getElem?.mp h1
  obtain ⟨h2, h3⟩ := List.getElem?_zip_eq_some.mp hi
  exact ⟨i, p, a, h2, h3, rfl⟩
theorem kvW_some {W : List (List Nat × List Nat)} {as : List Addr} {m : List Nat} {v : V} (h : valV (kvW W as) (mk m) = some v) : ∃ (i : Nat) (r : List Nat) (a : Addr), W[i]? = some (m, r) ∧ as[i]? = some a ∧ v = V.ref a := by
  unfold valV at h
  obtain ⟨q, h1, rfl⟩ := Option.map_eq_some_iff.mp h
  obtain ⟨i, p, a, h2, h3, rfl⟩ := kvW_mem (List.mem_of_find?_eq_some h1)
  have hk := List.find?_some h1
  have hk : mk p.1 = mk m := of_decide_eq_true hk
  have e := mk_inj hk
  obtain ⟨p1, p2⟩ := p
  simp only at e
  subst e
  exact ⟨i, p2, a, h2, h3, rfl⟩
theorem kvW_none {W : List (List Nat × List Nat)} {as : List Addr} (hl : as.length = W.length) {m : List Nat} (h : valV (kvW W as) (mk m) = none) : m ∉ W.map (·.1) := by
  intro hm
  obtain ⟨p, hp, rfl⟩ := List.mem_map.mp hm
  obtain ⟨i, hi⟩ := List.mem_iff_getElem?.mp hp
  have hil := (List.getElem?_eq_some_iff.mp hi).1
  have ha := List.getElem?_eq_getElem (l := as) (i := i) (by omega)
  have hk := List.mem_of_getElem? (kvW_key hi ha)
  unfold valV at h
  have hn := Option.map_eq_none_iff.mp h
  have := List.find?_eq_none.mp hn _ hk
  exact this (decide_eq_true rfl)
theorem kvW_snoc {W : List (List Nat × List Nat)} {as : List Addr} (hl : as.length = W.length) (m r : List Nat) (a : Addr) : kvW W as ++ [(mk m, V.ref a)] = kvW (W ++ [(m, r)]) (as ++ [a]) := by
  unfold kvW
  rw [List.zip_append hl.symm, List.map_append]
  rfl
theorem kvW_len {W : List (List Nat × List Nat)} {as : List Addr} (hl : as.length = W.length) : (kvW W as).length = W.length := by
  unfold kvW
  rw [List.length_map, List.length_zip]
  omega
/-! ### find_ways -/
abbrev sFnd : Stmt := top 24
abbrev nFnd : List Str := ["unfolding", "ways", "row"]
theorem scFnd : FnScope nFnd ["unfolding"] (defScope sFnd) := ⟨rfl, rfl, rfl, by decide +kernel, rfl, by decide +kernel, by decide +kernel⟩
def spFnd (c : Cs) : Sp := fun vs H Q _ => ∃ (x : Addr) (l : Lay) (g : Net) (m0 : Places) (u : Unfolding) (B : List Nat), vs = [.ref x] ∧ UnfAt c l H x g m0 u B ∧ UnfOk g m0 u B ∧ NetFit g m0 ∧
  ∀ (H' : Hp) (wd : Addr) (W : List (List Nat × List Nat)) (as : List Addr), Same H H' → H wd = none → H' wd = some (.dT (kvW W as)) → Nu.WaysOk u W → AllAt (fun a (w : List Nat × List Nat) => TupAt H' a w.2) as W → W.length ≤ 6 ^ 8 → Q (.ref wd) H'
/-- the call of marking_behind, of events that can have happened -/
theorem mark_call {c : Cs} {l : Lay} {H : Hp} {x la : Addr} {g : Net} {m0 : Places} {u : Unfolding} {B ls : List Nat} {kb : Bool} {Q : VK} {E : XK} (U : UnfAt c l H x g m0 u B) (O : UnfOk g m0 u B) (N : NetFit g m0) (hs : NuR.SqB K kb H la (nats ls)) (Cf : Nu.Cfg u ls)
    (q : ∀ H' p, Same H H' → H p = none → TupAt H' p (Sq63.markingOf u ls) → Q (.ref p) H') : spMrk c.U c.C c.E K [.ref x, .ref la] H Q E := by
  have M := Nu.mark_ok O.good N.ok Cf
  have e40 := O.e40
  have csz := O.csz
  have fm : ls.flatMap (madeD (evD u)) = ls.flatMap (Nu.madeOf u) := flatMap_congr' fun e he => madeD_eq (Cf.lt e he)
  have fU : ∀ k i v, uN.findIdx? (· == k) = some i → (uF l)[i]?.map (·.2) = some v → Has (uF l) k v := fun k i v h1 h2 => look (ns := uN) i rfl h1 h2
  refine ⟨x, l.dx, la, l.cds, l.evs, l.fst, kb, uF l, ls, Nu.firstOf u, Sq63.markingOf u ls, l.cs, l.es, cdD u, evD u, rfl, (wo_at U.ux).1, fU "conditions" 2 _ (by decide +kernel) rfl, fU "events" 1 _ (by decide +kernel) rfl, fU "first_conditions" 5 _ (by decide +kernel) rfl, hs, (wo_at U.uf).1, U.uc, U.ue, U.uC.mono (fun a d _ h => CdAt.same h wo_same), U.uE.mono (fun a d _ h => EvAt.same h wo_same), ?_, ?_, ?_, ?_, ?_, ?_, q⟩
  · rw [cdD_len]; omega
  · intro e he; rw [evD_len]; exact Cf.lt e he
  · rw [fm, cdD_len]; exact M.lt
  · rw [flat_used]; exact M.nd
  · rw [flat_used, fm]; exact M.sub
  · rw [flat_used, fm]
    intro T r hT hm hp hs
    rw [show placeD (cdD u) = Nu.placeOf u from funext fun d => placeD_eq d] at hp
    exact Nu.mark_uniq O.good N.ok N.safe Cf hT hm hp hs
theorem ok_fnd {c : Cs} {f fR fK : Addr} {fd fdR fdK : FuncData} (F : Fun K "find_ways" "find_ways" sFnd f fd) (TU : ClsT K mg "Unfolding" c.U uN) (gSor : mg "sorted" = none) (gLen : mg "len" = none)
    (GR : FnOk P w K mg base CX0 2 fR fdR ["unfolding"] (spRws c)) (bR : Binds K fdR ["unfolding"] []) (gR : mg "rows_that_can_have_happened" = some (.ref fR)) (kR : PySem.W.keepIn K (.ref fR) = true)
    (GK : FnOk P w K mg base CX0 1 fK fdK ["self", "events"] (spMrk c.U c.C c.E K)) (bK : Binds K fdK ["self", "events"] []) (mK : Meth K c.U "marking_behind" fK) : FnOk P w K mg base CX0 3 f fd ["unfolding"] (spFnd c) := by
  refine F.ok scFnd (fun vs H Q E h => ?_) (fun cdv A outer s H vs Q E hr h => ?_)
  · obtain ⟨x, l, g, m0, u, B, rfl, _⟩ := h
    rfl
  · obtain ⟨x, l, g, m0, u, B, rfl, U, O, N, q⟩ := h
    have hr1 : Room 1 _ := hr.mono (by decide)
    have hu := hr.units
    refine ⟨_, pss_cons (ps_set (i := 1) scFnd.nd rfl (Or.inl rfl) pe_dnewT)
      (pss_cons (ps_for PassesOwn.never rfl (pi_list (NuR.pe_sortLen (by rfl) gSor (by rfl) gLen (pe_callB (NuR.cr_sortedT hu) (by rfl) gSor (by decide +kernel) (pa_cons (pe_call GR hr rfl gR kR bR .nil pass0 (pa_cons (pv 0) pa_nil)) pa_nil)))) (pg_name (i := 2) scFnd.nd rfl (Or.inl rfl))
        (pss_one (ps_expr (pe_bm PySem.F.plainAttrs_dict PySem.F.slot_dict_setdefault PySem.F.type_dict_setdefault (NuR.mt_setdT (hu_of hr)) (pv 1) (pa_cons (pe_meth (pv 0) TU.cl mK GK hr1 bK .nil pass0 (pa_cons (pv 2) pa_nil)) (pa_cons (pv 2) pa_nil))))))
      (pss_one (ps_ret (pv 1)))), ?_⟩
    have e40 := O.e40
    intro wd nw
    have s1 : Same H (upd H wd (.dT [])) := snew (Same.refl _) nw
    refine ⟨_, rfl, x, l, g, m0, u, B, rfl, U.same s1, O, N, fun H2 p2 as2 s2 n2 g2 hA2 => ?_⟩
    have t2 : ∀ y ∈ as2.map V.ref, ∃ (t : Addr) (ns : List Int), y = V.ref t ∧ H2 t = some (.tup (ns.map V.int)) := fun y hy => by
      obtain ⟨a, ha, rfl⟩ := List.mem_map.mp hy
      obtain ⟨i, hi⟩ := List.mem_iff_getElem?.mp ha
      obtain ⟨r, _, hr⟩ := hA2.get' hi
      exact ⟨a, r.map Int.ofNat, rfl, by rw [show H2 a = _ from hr, nats_ints]⟩
    refine ⟨p2, as2.map V.ref, rfl, SqL.of g2, t2, fun ys p3 hs3 hp3 n3 => ?_⟩
    have s3 : Same H2 (upd H2 p3 (.lst ys)) := snew (Same.refl _) n3
    refine ⟨p3, ys, rfl, SqL.of upd_same, fun y hy => ?_, fun zs p4 hB n4 => ?_⟩
    · obtain ⟨t, ns, e, ht⟩ := t2 y (hp3.mem_iff.mp hy)
      exact ⟨t, _, e, s3 _ _ ht⟩
    have hA3 : AllAt (TupAt (upd H2 p3 (.lst ys))) as2 ((Nu.rowsTo u u.events.length).map (·.1)) := hA2.mono fun a r _ h => s3 _ _ h
    have hs3' : ys.Pairwise fun x y => NuR.ltT (upd H2 p3 (.lst ys)) y x = false := by
      refine List.Pairwise.imp_of_mem (fun {x y} hx hy hxy => ?_) hs3
      obtain ⟨t, ns, e, ht⟩ := t2 x (hp3.mem_iff.mp hx)
      obtain ⟨t', ns', e', ht'⟩ := t2 y (hp3.mem_iff.mp hy)
      subst e e'
      unfold NuR.ltT at hxy ⊢
      rw [NuR.tInts_at ht, NuR.tInts_at ht'] at hxy
      rw [NuR.tInts_at (s3 _ _ ht), NuR.tInts_at (s3 _ _ ht')]
      exact hxy
    obtain ⟨bs, R, rfl, hAR, hpR, hsR⟩ := sorted_rows hA3 hs3' hp3 hB
    have s4 : Same (upd H2 p3 (.lst ys)) (upd (upd H2 p3 (.lst ys)) p4 (.lst (bs.map V.ref))) := snew (Same.refl _) n4
    have g4 : upd (upd H2 p3 (.lst ys)) p4 (.lst (bs.map V.ref)) p4 = some (.lst (bs.map V.ref)) := upd_same
    have s04 := ((s1.trans s2).trans s3).trans s4
    have gw4 : upd (upd H2 p3 (.lst ys)) p4 (.lst (bs.map V.ref)) wd = some (.dT []) := s4 _ _ (s3 _ _ (s2 _ _ upd_same))
    have hAR4 : AllAt (TupAt (upd (upd H2 p3 (.lst ys)) p4 (.lst (bs.map V.ref)))) bs R := hAR.mono fun a r _ h => s4 _ _ h
    generalize upd (upd H2 p3 (.lst ys)) p4 (.lst (bs.map V.ref)) = H4 at s04 g4 gw4 hAR4 ⊢
    have memR : ∀ s, s ∈ R ↔ Nu.Conf u s := fun s => by rw [hpR.mem_iff, Nu.rows_all O.good N.ok]
    have lenR : R.length ≤ 6 ^ 8 := by
      rw [hpR.length_eq, List.length_map]
      exact Nu.rowsTo_len O.good N.ok N.safe N.t8 e40 (Nat.le_refl _)
    refine ⟨p4, rfl, ⟨_, SqL.of g4⟩, for_list (K := K) (a := p4) (xs := bs.map V.ref) (fun i σ H' => Keep [wd] H4 H' ∧ Same H H' ∧ (∃ v, σ = [some (.ref x), some (.ref wd), v]) ∧ ∃ (W : List (List Nat × List Nat)) (as : List Addr), H' wd = some (.dT (kvW W as)) ∧ Nu.WaysTo u (R.take i) W ∧ AllAt (fun a (w : List Nat × List Nat) => TupAt H' a w.2) as W ∧ W.length ≤ i) ?_ ?_ ?_ ?_⟩
    · exact ⟨fun _ _ h _ => h, s04, ⟨none, rfl⟩, [], [], gw4, by rw [List.take_zero]; exact Nu.ways_nil, AllAt.nil, Nat.le_refl _⟩
    · rintro i σ H' _ ⟨k, _⟩
      refine SqL.of (k _ _ g4 fun e => ?_)
      rw [List.mem_singleton.mp e, gw4] at g4
      cases g4
    · rintro i y σ H5 hi ⟨k5, s5, ⟨v, rfl⟩, W, as, gw5, hW, hAs, hWl⟩
      obtain ⟨b, hb, rfl⟩ := refs_get hi
      obtain ⟨r, hr', hrow⟩ := hAR4.get' hb
      have hil := (List.getElem?_eq_some_iff.mp hr').1
      have hrow5 : TupAt H5 b r := k5 _ _ hrow fun e => by
        rw [List.mem_singleton.mp e] at hrow
        rw [show H4 wd = _ from hrow] at gw4
        cases gw4
      have hx5 := s5 _ _ (wo_at U.ux).1
      have Cr := (memR r).mp (List.mem_of_getElem? hr')
      refine ⟨_, rfl, .inr (.inr (.inl ⟨rfl, .inr ⟨_, gw5⟩⟩)), _, rfl, x, l.dx, uF l, rfl, hx5, nolook (ns := uN) rfl (by decide +kernel), _, rfl, ?_⟩
      simp only [tNil]
      refine mark_call (kb := false) (U.same s5) O N (SqT.of hrow5) Cr.cfg fun H6 p6 s6 n6 g6 => ?_
      have gw6 := s6 _ _ gw5
      have k6 : Keep [wd] H4 H6 := k5.trans (Keep.same s6)
      refine ⟨_, rfl, wd, kvW W as, mk (Sq63.markingOf u r), p6, .ref b, rfl, rfl, gw6, by rw [mk_kV]; exact g6, ?_, fun v hv => ?_, fun hn => ?_⟩
      · rw [kvW_len hAs.len]
        exact big8 (by omega)
      · obtain ⟨j, r', a, h1, h2, rfl⟩ := kvW_some hv
        refine ⟨k6, s5.trans s6, ⟨_, rfl⟩, W, as, gw6, ?_, hAs.mono fun a d _ h => s6 _ _ h, by omega⟩
        rw [take1 hr']
        refine Nu.ways_old hW (fun z hz => ?_) (List.mem_map.mpr ⟨_, List.mem_of_getElem? h1, rfl⟩)
        have hz' : z ∈ R.take i := hz
        have hsplit := hsR
        rw [show R = R.take i ++ r :: R.drop (i + 1) by
          obtain ⟨hil, rfl⟩ := List.getElem?_eq_some_iff.mp hr'
          rw [List.getElem_cons_drop, List.take_append_drop], List.pairwise_append] at hsplit
        exact hsplit.2.2 z hz' r (by simp)
      · have hnm := kvW_none hAs.len hn
        rw [kvW_snoc hAs.len _ r]
        have kw : Keep [wd] H6 (upd H6 wd (.dT (kvW (W ++ [(Sq63.markingOf u r, r)]) (as ++ [b])))) := Keep.upd (fun _ _ h _ => h) (Or.inl (by simp))
        have tupK : ∀ a r', TupAt H6 a r' → TupAt (upd H6 wd (.dT (kvW (W ++ [(Sq63.markingOf u r, r)]) (as ++ [b])))) a r' := fun a r' h => kw _ _ h fun e => by
          rw [List.mem_singleton.mp e] at h
          rw [show H6 wd = _ from h] at gw6
          cases gw6
        refine ⟨k6.trans kw, Same.upd' (s5.trans s6) nw, ⟨_, rfl⟩, W ++ [(Sq63.markingOf u r, r)], as ++ [b], upd_same, ?_, ?_, by rw [List.length_append]; show _ + 1 ≤ _; omega⟩
        · rw [take1 hr']
          exact Nu.ways_new hW hnm
        · exact AllAt.snoc (hAs.mono fun a d _ h => tupK _ _ (s6 _ _ h)) (tupK _ _ (s6 _ _ hrow5))
    · rintro σ H5 ⟨k5, s5, ⟨v, rfl⟩, W, as, gw5, hW, hAs, hWl⟩
      rw [List.length_map, hAR4.len] at hW hWl
      rw [List.take_length] at hW
      exact ⟨_, rfl, q H5 wd W as s5 nw gw5 (hW.ok memR) hAs (by omega)⟩
end NuP
end
/-! # NuP29 -/
section
set_option Elab.async false
set_option maxRecDepth 100000
set_option maxHeartbeats 4000000
set_option linter.all false
namespace NuP
open PySem PySem.Spec PyProof.Rows L2
open Sq63 (Net Places Transition Unfolding House)
variable {P : Program} {w : World} {K : PySem.W.Frag} {mg : Str → Option Value} {base : Heap}
/-! ### tell_two -/
theorem two_none {h : House} {e f : Nat} (hn : h.u.events.length ≤ e ∨ h.u.events.length ≤ f) : ansOf h (.two e f) = [-2] := by
  unfold ansOf
  have : h.step (.two e f) = (h, Sq63.says (-2)) := by
    simp only [Sq63.House.step]
    rcases hn with hn | hn
    · rw [List.getElem?_eq_none hn]
    · rw [List.getElem?_eq_none hn]
      cases h.u.events[e]? <;> rfl
  rw [this]
  rfl
theorem two_some {h : House} {e f : Nat} {x y : Sq63.Event} (hx : h.u.events[e]? = some x) (hy : h.u.events[f]? = some y) : ansOf h (.two e f) = [if e = f then 0 else if y.needs.contains e = true then 1 else if x.needs.contains f = true then 2 else if Sq63.clash h.u x.needs y.needs = true then 3 else 4] := by
  unfold ansOf
  simp only [Sq63.House.step, hx, hy]
  rfl
abbrev sTwo2 : Stmt := inClass (top 45) 5
abbrev nTwo2 : List Str := ["self", "first", "second", "first_needs", "second_needs", "both"]
theorem scTwo2 : FnScope nTwo2 ["self", "first", "second"] (defScope sTwo2) := ⟨rfl, rfl, rfl, by decide +kernel, rfl, by decide +kernel, by decide +kernel⟩
def spTw2 (c : Cs) : Sp := fun vs H Q _ => ∃ (x : Addr) (h : House) (e f : Nat), vs = [.ref x, natV e, natV f] ∧ LineAt c H x h ∧ ∀ (H' : Hp) (p : Addr), Same H H' → H p = none → IntsAt H' p (ansOf h (.two e f)) → Q (.ref p) H'
theorem ok_tw2 {c : Cs} {f fC : Addr} {fd fdC : FuncData} {t1 t2 t3 t4 t5 t6 : Tok} (F : Fun K "tell_two" "Line.tell_two" sTwo2 f fd) (TL : ClsT K mg "Line" c.L lN) (TU : ClsT K mg "Unfolding" c.U uN) (TE : ClsT K mg "Event" c.E evN) (gLen : mg "len" = none) (gMax : mg "max" = none) (gSor : mg "sorted" = none) (gSet : mg "set" = none)
    (gN : mg "NOT_THERE" = some (.int (-2) t1)) (g0 : mg "THE_SAME" = some (.int 0 t2)) (g1 : mg "SECOND_NEEDS_FIRST" = some (.int 1 t3)) (g2 : mg "FIRST_NEEDS_SECOND" = some (.int 2 t4)) (g3 : mg "CLASH" = some (.int 3 t5)) (g4 : mg "SIDE_BY_SIDE" = some (.int 4 t6))
    (GC : FnOk P w K mg base CX0 2 fC fdC ["self", "events"] (spCls c.U c.E K)) (bC : Binds K fdC ["self", "events"] []) (mC : Meth K c.U "is_clash_within" fC) : FnOk P w K mg base CX0 3 f fd ["self", "first", "second"] (spTw2 c) := by
  refine F.ok scTwo2 (fun vs H Q E h => ?_) (fun cdv A outer s H vs Q E hr h => ?_)
  · obtain ⟨x, h, e, f', rfl, _⟩ := h
    rfl
  · obtain ⟨x, h, e, f', rfl, ⟨⟨dx, ux, l, B, wv, hx, U, O, _⟩, N, _⟩, q⟩ := h
    refine ⟨_, pss_cons (ps_if (pt_cmpR op_ge (pe_callB (call_max2 rfl) (by rfl) gMax (by decide +kernel) (pa_cons (pv 1) (pa_cons (pv 2) pa_nil))) (pe_callB call_len_seq (by rfl) gLen PySem.boot_len (pa_cons (pe_fld (pe_fld (pv 0) rfl) rfl) pa_nil)) (nomark _)) (pss_one (ps_ret (pe_lst (pa_cons (pe_glob (v := .int (-2)) rfl gN ⟨_, rfl⟩) pa_nil)))) pss_nil)
      (pss_cons (ps_if (pt_cmpR op_eq (pv 1) (pv 2) (nomark _)) (pss_one (ps_ret (pe_lst (pa_cons (pe_glob (v := .int 0) rfl g0 ⟨_, rfl⟩) pa_nil)))) pss_nil)
      (pss_cons (ps_set (i := 3) scTwo2.nd rfl (Or.inl rfl) (pe_fld (pe_ix ix_list (pe_fld (pe_fld (pv 0) rfl) rfl) (pv 1) (fun _ _ => rfl)) rfl))
      (pss_cons (ps_set (i := 4) scTwo2.nd rfl (Or.inl rfl) (pe_fld (pe_ix ix_list (pe_fld (pe_fld (pv 0) rfl) rfl) (pv 2) (fun _ _ => rfl)) rfl))
      (pss_cons (ps_if (pt_cmpR (r := rIn K false) op_in_seq (pv 1) (pv 4) (by rfl)) (pss_one (ps_ret (pe_lst (pa_cons (pe_glob (v := .int 1) rfl g1 ⟨_, rfl⟩) pa_nil)))) pss_nil)
      (pss_cons (ps_if (pt_cmpR (r := rIn K false) op_in_seq (pv 2) (pv 3) (by rfl)) (pss_one (ps_ret (pe_lst (pa_cons (pe_glob (v := .int 2) rfl g2 ⟨_, rfl⟩) pa_nil)))) pss_nil)
      (pss_cons (ps_set (i := 5) scTwo2.nd rfl (Or.inl rfl) (pe_callB (cr_sortedSet rfl) (by rfl) gSor (by decide +kernel) (pa_cons (pe_callTy (NuR.cr_setM rfl) (by rfl) gSet (by decide +kernel) (pa_cons (pe_op op_cat (pv 3) (pv 4)) pa_nil)) pa_nil)))
      (pss_one (ps_ret (pe_lst (pa_cons (pe_ifExp (pt_val (pe_meth (pe_fld (pv 0) rfl) TU.cl mC GC hr bC .nil pass0 (pa_cons (pv 5) pa_nil))) (pe_glob (v := .int 3) rfl g3 ⟨_, rfl⟩) (pe_glob (v := .int 4) rfl g4 ⟨_, rfl⟩)) pa_nil)))))))))), ?_⟩
    have fU : ∀ k i v, uN.findIdx? (· == k) = some i → (uF l)[i]?.map (·.2) = some v → Has (uF l) k v := fun k i v h1 h2 => look (ns := uN) i rfl h1 h2
    have fL : Has (lF ux wv) "unfolding" (.ref ux) := look (ns := lN) 0 rfl (by decide +kernel) rfl
    have gu := (wo_at U.ux).1
    have e40 := O.e40
    have ans : ∀ (z : Int) (H1 : Hp), Same H H1 → ansOf h (.two e f') = [z] → ∀ p, H1 p = none → Q (.ref p) (upd H1 p (.lst [.int z])) := by
      intro z H1 s1 ez p np
      refine q _ p (snew s1 np) (s1.free np) ?_
      show upd H1 p _ p = _
      rw [upd_same, ez]
      rfl
    refine ⟨_, rfl, _, rfl, _, _, rfl, _, rfl, x, c.L, dx, _, _, rfl, hx, TL.cl, TL.no _ (by decide +kernel), fL, ux, c.U, l.dx, uF l, _, rfl, gu, TU.cl, TU.no _ (by decide +kernel), fU "events" 1 _ (by decide +kernel) rfl, l.evs, _, rfl, .inl (SqL.of U.ue), _, _, rfl, rfl, _, rfl, ?_⟩
    rw [List.length_map, U.uE.len, evD_len]
    refine ite2 (fun c' => ?_) (fun c' => ?_)
    · have hle : h.u.events.length ≤ e ∨ h.u.events.length ≤ f' := by
        have := of_decide_eq_true c'
        split at this <;> omega
      exact ⟨by show 1 ≤ sizeLine; decide, fun p np => ans _ H (Same.refl _) (two_none hle) p np⟩
    have hlt : e < h.u.events.length ∧ f' < h.u.events.length := by
      have : ¬ ((if (f' : Int) > (e : Int) then (f' : Int) else (e : Int)) ≥ (h.u.events.length : Int)) := fun z => c' (decide_eq_true z)
      split at this <;> omega
    have hxe := List.getElem?_eq_getElem hlt.1
    have hyf := List.getElem?_eq_getElem hlt.2
    generalize h.u.events[e]'hlt.1 = ex at hxe
    generalize h.u.events[f']'hlt.2 = ey at hyf
    have es := two_some hxe hyf
    refine ⟨_, rfl, _, rfl, rfl, _, rfl, ?_⟩
    by_cases cef : e = f'
    · refine ite2 (fun _ => ⟨by show 1 ≤ sizeLine; decide, fun p np => ans _ H (Same.refl _) (by rw [es, if_pos cef]) p np⟩) (fun z => absurd (decide_eq_true (by rw [cef])) z)
    rw [if_neg cef] at es
    refine ite2 (fun z => absurd (of_decide_eq_true z) fun z => cef (by have := V.int.inj z; omega)) (fun _ => ?_)
    obtain ⟨ea, hea, hE⟩ := U.uE.get (i := e) (by rw [evD_get, hxe]; rfl)
    obtain ⟨de, us, md, nd, mk, k1, k2, k3, k4, k5⟩ := hE.same wo_same
    obtain ⟨fa, hfa, hF⟩ := U.uE.get (i := f') (by rw [evD_get, hyf]; rfl)
    obtain ⟨de', us', md', nd', mk', k1', k2', k3', k4', k5'⟩ := hF.same wo_same
    have en : ex.needs.length ≤ _ := evD_needs O.good _ (List.mem_of_getElem? (show (evD h.u)[e]? = some _ by rw [evD_get, hxe]; rfl))
    have fn : ey.needs.length ≤ _ := evD_needs O.good _ (List.mem_of_getElem? (show (evD h.u)[f']? = some _ by rw [evD_get, hyf]; rfl))
    refine ⟨_, rfl, x, c.L, dx, _, _, rfl, hx, TL.cl, TL.no _ (by decide +kernel), fL, ux, c.U, l.dx, uF l, _, rfl, gu, TU.cl, TU.no _ (by decide +kernel), fU "events" 1 _ (by decide +kernel) rfl, _, rfl, l.evs, _, _, V.ref ea, rfl, rfl, SqL.of U.ue, atI_nat (by rw [List.getElem?_map, hea]; rfl), ea, c.E, de, _, _, rfl, k1, TE.cl, TE.no _ (by decide +kernel), look (ns := evN) 3 rfl (by decide +kernel) rfl, ?_⟩
    refine ⟨_, rfl, x, c.L, dx, _, _, rfl, hx, TL.cl, TL.no _ (by decide +kernel), fL, ux, c.U, l.dx, uF l, _, rfl, gu, TU.cl, TU.no _ (by decide +kernel), fU "events" 1 _ (by decide +kernel) rfl, _, rfl, l.evs, _, _, V.ref fa, rfl, rfl, SqL.of U.ue, atI_nat (by rw [List.getElem?_map, hfa]; rfl), fa, c.E, de', _, _, rfl, k1', TE.cl, TE.no _ (by decide +kernel), look (ns := evN) 3 rfl (by decide +kernel) rfl, ?_⟩
    refine ⟨_, rfl, _, rfl, nd', _, rfl, .inl (SqL.of k4'), rfl, flat_nats _, _, rfl, ?_⟩
    dsimp only
    rw [inV_nats]
    cases c1 : ey.needs.contains e with
    | true =>
      rw [c1, if_pos rfl] at es
      exact iteT ⟨by show 1 ≤ sizeLine; decide, fun p np => ans _ H (Same.refl _) es p np⟩
    | false =>
    rw [c1, if_neg (by simp)] at es
    refine iteF ⟨_, rfl, _, rfl, nd, _, rfl, .inl (SqL.of k4), rfl, flat_nats _, _, rfl, ?_⟩
    dsimp only
    rw [inV_nats]
    cases c2 : ex.needs.contains f' with
    | true =>
      rw [c2, if_pos rfl] at es
      exact iteT ⟨by show 1 ≤ sizeLine; decide, fun p np => ans _ H (Same.refl _) es p np⟩
    | false =>
    rw [c2, if_neg (by simp)] at es
    have Ex := O.good.ev e ex hxe
    have Ey := O.good.ev f' ey hyf
    have memU : ∀ z, z ∈ Sq63.union ex.needs ey.needs ↔ z ∈ ex.needs ∨ z ∈ ey.needs := fun z => Nu.mem_union
    have riseU : (Sq63.union ex.needs ey.needs).Pairwise (· < ·) := Nu.union_rise Ey.rise
    have ltU : ∀ z, z ∈ Sq63.union ex.needs ey.needs → z < h.u.events.length := fun z hz => by
      rcases (memU z).mp hz with q | q
      · have := Ex.nle z q; omega
      · have := Ey.nle z q; omega
    have lenU := rise_len riseU ltU
    refine iteF ⟨_, rfl, _, rfl, nd, nd', _, _, rfl, rfl, k4, k4', ?_, fun p1 n1 => ?_⟩
    · have : (nats ex.needs).length + (nats ey.needs).length ≤ 1000 := by
        rw [nats_len, nats_len]
        omega
      exact sz400 this
    have s1 : Same H (upd H p1 (.lst (nats ex.needs ++ nats ey.needs))) := snew (Same.refl _) n1
    refine ⟨p1, (ex.needs ++ ey.needs).map Int.ofNat, (Sq63.union ex.needs ey.needs).map Int.ofNat, rfl, SqL.of (upd_same.trans (by rw [← nats_ints, nats_app])), fun j hj => ?_, ?_, fun p2 cc n2 hc1 _ => ?_⟩
    · obtain ⟨z, hz, rfl⟩ := List.mem_map.mp hj
      exact List.mem_map.mpr ⟨z, (memU z).mpr (List.mem_append.mp hz), rfl⟩
    · rw [List.length_map]
      exact Nat.lt_of_le_of_lt (show _ ≤ 41 by omega) (by decide)
    have s2 := snew (o := SetO (cxOf CX0 P w K mg base nTwo2 "Line.tell_two" (defScope sTwo2) f cdv A outer s H E).nox.w p2 (fun j => decide (j ∈ (ex.needs ++ ey.needs).map Int.ofNat)) cc) s1 n2
    refine ⟨p2, _, cc, rfl, upd_same, ?_, fun ns p3 sr mem hlen n3 => ?_⟩
    · have := hc1 ((Sq63.union ex.needs ey.needs).map Int.ofNat) fun j hj => by
        obtain ⟨z, hz, rfl⟩ := List.mem_map.mp hj
        exact List.mem_map.mpr ⟨z, (memU z).mpr (List.mem_append.mp hz), rfl⟩
      rw [List.length_map] at this
      omega
    have ens : ns.map V.int = nats (Sq63.union ex.needs ey.needs) := by
      rw [nats_ints]
      refine congrArg (List.map V.int) (int_rise sr riseU fun k => ?_)
      rw [mem, decide_eq_true_iff, List.mem_map, List.mem_map]
      constructor
      · rintro ⟨z, hz, rfl⟩; exact ⟨z, (memU z).mpr (List.mem_append.mp hz), rfl⟩
      · rintro ⟨z, hz, rfl⟩; exact ⟨z, List.mem_append.mpr ((memU z).mp hz), rfl⟩
    rw [ens]
    have s3 := snew (o := .lst (nats (Sq63.union ex.needs ey.needs))) s2 n3
    have EA := (U.same s3).evs (K := K) O N (SqL.of upd_same) riseU ltU
    refine ⟨_, rfl, x, c.L, dx, _, _, rfl, s3 _ _ hx, TL.cl, TL.no _ (by decide +kernel), fL, ux, l.dx, uF l, rfl, s3 _ _ gu, nolook (ns := uN) rfl (by decide +kernel), _, rfl, ux, p3, _, _, rfl, EA, fun H4 b s4 hb => ⟨_, rfl, ?_⟩⟩
    rw [flat_used, Nu.nodup_clash O.good N.ok (Nu.rise_nodup riseU), Classical.not_not, Nu.two_clash O.good hxe hyf memU, ← Nu.clash_iff] at hb
    cases b with
    | true =>
      rw [if_pos (hb.mp rfl)] at es
      exact iteT ⟨by show 1 ≤ sizeLine; decide, fun p np => ans _ H4 (s3.trans s4) es p np⟩
    | false =>
      rw [if_neg (fun z => by have := hb.mpr z; cases this)] at es
      exact iteF ⟨by show 1 ≤ sizeLine; decide, fun p np => ans _ H4 (s3.trans s4) es p np⟩
/-! ### tell_there -/
theorem the_bad {h : House} {ls : List Nat} (hn : Sq63.placesOk h.u.conds.length ls = false) : ansOf h (.there ls) = [-3] := by
  unfold ansOf
  have hc : Sq63.rising ls = false ∨ (ls.any fun c => decide (h.u.conds.length ≤ c)) = true := by
    unfold Sq63.placesOk at hn
    rw [Bool.and_eq_false_iff] at hn
    refine hn.imp id fun z => ?_
    obtain ⟨c, hc, hq⟩ := List.all_eq_false.mp z
    refine List.any_eq_true.mpr ⟨c, hc, decide_eq_true ?_⟩
    have : ¬ c < h.u.conds.length := fun y => hq (decide_eq_true y)
    omega
  have : h.step (.there ls) = (h, Sq63.says (-3)) := if_pos hc
  rw [this]
  rfl
theorem the_ok {h : House} {ls : List Nat} (hn : Sq63.placesOk h.u.conds.length ls = true) : ansOf h (.there ls) = [if Sq63.together h.u ls = true then 1 else 0] := by
  unfold ansOf
  have hc : ¬ (Sq63.rising ls = false ∨ (ls.any fun c => decide (h.u.conds.length ≤ c)) = true) := by
    unfold Sq63.placesOk at hn
    rw [Bool.and_eq_true] at hn
    rintro (z | z)
    · rw [hn.1] at z; cases z
    · obtain ⟨c, hc, hq⟩ := List.any_eq_true.mp z
      have h1 := of_decide_eq_true hq
      have h2 := of_decide_eq_true (List.all_eq_true.mp hn.2 c hc)
      omega
  have : h.step (.there ls) = (h, Sq63.says (if Sq63.together h.u ls = true then 1 else 0)) := if_neg hc
  rw [this]
  rfl
abbrev sThe : Stmt := inClass (top 45) 6
abbrev nThe : List Str := ["self", "conditions"]
theorem scThe : FnScope nThe ["self", "conditions"] (defScope sThe) := ⟨rfl, rfl, rfl, by decide +kernel, rfl, by decide +kernel, by decide +kernel⟩
def spThe (c : Cs) : Sp := fun vs H Q _ => ∃ (x la : Addr) (h : House) (ls : List Nat), vs = [.ref x, .ref la] ∧ LineAt c H x h ∧ ListAt H la ls ∧ ls.length ≤ 20000 ∧ ∀ (H' : Hp) (p : Addr), Same H H' → H p = none → IntsAt H' p (ansOf h (.there ls)) → Q (.ref p) H'
theorem ok_the {c : Cs} {f fI fC : Addr} {fd fdI fdC : FuncData} {t1 : Tok} (F : Fun K "tell_there" "Line.tell_there" sThe f fd) (TL : ClsT K mg "Line" c.L lN) (TU : ClsT K mg "Unfolding" c.U uN) (gLen : mg "len" = none) (gS : mg "NOT_TOLD_SO" = some (.int (-3) t1))
    (GI : FnOk P w K mg base CX0 1 fI fdI ["numbers", "bound"] (spRis K)) (bI : Binds K fdI ["numbers", "bound"] []) (gI : mg "is_rising_below" = some (.ref fI)) (kI : PySem.W.keepIn K (.ref fI) = true)
    (GC : FnOk P w K mg base CX0 3 fC fdC ["self", "conditions"] (spCan c K)) (bC : Binds K fdC ["self", "conditions"] []) (mC : Meth K c.U "can_be_at_once" fC) : FnOk P w K mg base CX0 4 f fd ["self", "conditions"] (spThe c) := by
  refine F.ok scThe (fun vs H Q E h => ?_) (fun cdv A outer s H vs Q E hr h => ?_)
  · obtain ⟨x, la, h, ls, rfl, _⟩ := h
    rfl
  · obtain ⟨x, la, h, ls, rfl, ⟨⟨dx, ux, l, B, wv, hx, U, O, _⟩, N, _⟩, gl, hll, q⟩ := h
    have hr1 : Room 1 _ := hr.mono (by decide)
    refine ⟨_, pss_cons (ps_if (pt_not (pt_val (pe_call GI hr1 rfl gI kI bI .nil pass0 (pa_cons (pv 1) (pa_cons (pe_callB call_len_seq (by rfl) gLen PySem.boot_len (pa_cons (pe_fld (pe_fld (pv 0) rfl) rfl) pa_nil)) pa_nil))))) (pss_one (ps_ret (pe_lst (pa_cons (pe_glob (v := .int (-3)) rfl gS ⟨_, rfl⟩) pa_nil)))) pss_nil)
      (pss_one (ps_ret (pe_lst (pa_cons (pe_ifExp (pt_val (pe_meth (pe_fld (pv 0) rfl) TU.cl mC GC hr bC .nil pass0 (pa_cons (pv 1) pa_nil))) pe_int pe_int) pa_nil)))), ?_⟩
    have fU : ∀ k i v, uN.findIdx? (· == k) = some i → (uF l)[i]?.map (·.2) = some v → Has (uF l) k v := fun k i v h1 h2 => look (ns := uN) i rfl h1 h2
    have fL : Has (lF ux wv) "unfolding" (.ref ux) := look (ns := lN) 0 rfl (by decide +kernel) rfl
    have gu := (wo_at U.ux).1
    have ans : ∀ (z : Int) (H1 : Hp), Same H H1 → ansOf h (.there ls) = [z] → ∀ p, H1 p = none → Q (.ref p) (upd H1 p (.lst [.int z])) := by
      intro z H1 s1 ez p np
      refine q _ p (snew s1 np) (s1.free np) ?_
      show upd H1 p _ p = _
      rw [upd_same, ez]
      rfl
    refine ⟨_, rfl, _, rfl, x, c.L, dx, _, _, rfl, hx, TL.cl, TL.no _ (by decide +kernel), fL, ux, c.U, l.dx, uF l, _, rfl, gu, TU.cl, TU.no _ (by decide +kernel), fU "conditions" 2 _ (by decide +kernel) rfl, l.cds, _, rfl, .inl (SqL.of U.uc), la, ls, h.u.conds.length, ?_, SqL.of gl, hll, _, rfl, ?_⟩
    · rw [List.length_map, U.uC.len, cdD_len]
      rfl
    cases hm : Sq63.placesOk h.u.conds.length ls with
    | false => exact iteT ⟨by show 1 ≤ sizeLine; decide, fun p np => ans _ H (Same.refl _) (the_bad hm) p np⟩
    | true =>
      have ea := the_ok hm
      obtain ⟨hrise, hlt⟩ := Nu.placesOk_iff.mp hm
      refine iteF ⟨_, rfl, x, c.L, dx, _, _, rfl, hx, TL.cl, TL.no _ (by decide +kernel), fL, ux, l.dx, uF l, rfl, gu, nolook (ns := uN) rfl (by decide +kernel), _, rfl, ux, la, l, h.g, h.m, h.u, B, ls, rfl, U, O, N, SqL.of gl, hrise, hlt, fun H1 s1 => ⟨_, rfl, ?_⟩⟩
      cases ht : Sq63.together h.u ls with
      | true =>
        rw [ht, if_pos rfl] at ea
        exact iteT ⟨by show 1 ≤ sizeLine; decide, fun p np => ans _ H1 s1 ea p np⟩
      | false =>
        rw [ht, if_neg (by simp)] at ea
        exact iteF ⟨by show 1 ≤ sizeLine; decide, fun p np => ans _ H1 s1 ea p np⟩
end NuP
end
/-! # NuP30 -/
section
set_option Elab.async false
set_option maxRecDepth 100000
set_option maxHeartbeats 4000000
set_option linter.all false
namespace NuP
open PySem PySem.Spec PyProof.Rows L2
open Sq63 (Net Places Transition Unfolding House)
variable {P : Program} {w : World} {K : PySem.W.Frag} {mg : Str → Option Value} {base : Heap}
/-! ### the ways of a line -/
structure WaysAt (H : Hp) (u : Unfolding) (wd : Addr) (W : List (List Nat × List Nat)) (as : List Addr) : Prop where
  at_ : H wd = some (.dT (kvW W as))
  ok : Nu.WaysOk u W
  rows : AllAt (fun a (w : List Nat × List Nat) => TupAt H a w.2) as W
theorem WaysAt.same {H H' : Hp} {u : Unfolding} {wd : Addr} {W : List (List Nat × List Nat)} {as : List Addr} (h : WaysAt H u wd W as) (s : Same H H') : WaysAt H' u wd W as := ⟨s _ _ h.at_, h.ok, h.rows.mono fun a d _ q => s _ _ q⟩
theorem mark_ok9 {g : Net} {m0 : Places} {u : Unfolding} {B : List Nat} (O : UnfOk g m0 u B) (N : NetFit g m0) {r : List Nat} (h : Nu.Conf u r) : Sq63.placesOk g.n (Sq63.markingOf u r) = true :=
  reach_ok N.m0k (fun t ht => (N.tsk t ht).2.1) (Nu.cfg_all O.good N.ok N.safe _ _ rfl h.cfg).2
theorem pows_lt {n : Nat} {l : List Nat} (h1 : l.Nodup) (h2 : ∀ p, p ∈ l → p < n) : Nu.pows l < 2 ^ n := by
  refine Nat.lt_pow_two_of_testBit _ fun i hi => ?_
  rw [Nu.bit_pows h1]
  exact decide_eq_false fun q => by have := h2 i q; omega
theorem ways_few {g : Net} {m0 : Places} {u : Unfolding} {B : List Nat} (O : UnfOk g m0 u B) (N : NetFit g m0) {W : List (List Nat × List Nat)} (hW : Nu.WaysOk u W) : W.length ≤ 512 ∧ ∀ m, m ∈ W.map (·.1) → m.Pairwise (· < ·) ∧ m.length ≤ 9 := by
  have each : ∀ m, m ∈ W.map (·.1) → m.Pairwise (· < ·) ∧ (∀ p, p ∈ m → p < 9) ∧ m.length ≤ 9 := fun m hm => by
    obtain ⟨⟨m', r⟩, hr, rfl⟩ := List.mem_map.mp hm
    obtain ⟨h1, h2, _⟩ := hW.at_ m' r hr
    have hok := mark_ok9 O N h1
    rw [h2] at hok
    obtain ⟨h3, h4⟩ := Nu.placesOk_iff.mp hok
    have h5 := places_len hok
    have h6 := N.n9
    exact ⟨h3, fun p hp => by have := h4 p hp; omega, by show m'.length ≤ 9; omega⟩
  refine ⟨?_, fun m hm => ⟨(each m hm).1, (each m hm).2.2⟩⟩
  have nd : ((W.map (·.1)).map Nu.pows).Nodup := by
    rw [List.Nodup, List.pairwise_map]
    refine List.Pairwise.imp_of_mem (fun {a b} ha hb hne e => hne ?_) hW.nd
    refine Nu.rise_ext (each a ha).1 (each b hb).1 fun z => ?_
    have h1 := Nu.bit_pows (Nu.rise_nodup (each a ha).1) z
    have h2 := Nu.bit_pows (Nu.rise_nodup (each b hb).1) z
    rw [e, h2] at h1
    constructor
    · intro q; exact of_decide_eq_true (h1.trans (decide_eq_true q))
    · intro q; exact of_decide_eq_true (h1.symm.trans (decide_eq_true q))
  have := Nu.nodup_sub_len nd (L := List.range 512) fun z hz => by
    obtain ⟨m, hm, rfl⟩ := List.mem_map.mp hz
    exact List.mem_range.mpr (pows_lt (n := 9) (Nu.rise_nodup (each m hm).1) (each m hm).2.1)
  rw [List.length_range, List.length_map, List.length_map] at this
  exact this
/-! ### known_ways -/
abbrev sKnw : Stmt := inClass (top 45) 7
abbrev nKnw : List Str := ["self"]
theorem scKnw : FnScope nKnw ["self"] (defScope sKnw) := ⟨rfl, rfl, rfl, by decide +kernel, rfl, by decide +kernel, by decide +kernel⟩
def spKnw (c : Cs) : Sp := fun vs H Q _ => ∃ (x : Addr) (h : House), vs = [.ref x] ∧ LineAt c H x h ∧ ∀ (H' : Hp) (wd : Addr) (W : List (List Nat × List Nat)) (as : List Addr), Keep [x] H H' → LineAt c H' x h → WaysAt H' h.u wd W as → Q (.ref wd) H'
theorem ok_knw {c : Cs} {f fF : Addr} {fd fdF : FuncData} (F : Fun K "known_ways" "Line.known_ways" sKnw f fd) (TL : ClsT K mg "Line" c.L lN)
    (GF : FnOk P w K mg base CX0 3 fF fdF ["unfolding"] (spFnd c)) (bF : Binds K fdF ["unfolding"] []) (gF : mg "find_ways" = some (.ref fF)) (kF : PySem.W.keepIn K (.ref fF) = true) : FnOk P w K mg base CX0 4 f fd ["self"] (spKnw c) := by
  refine F.ok scKnw (fun vs H Q E h => ?_) (fun cdv A outer s H vs Q E hr h => ?_)
  · obtain ⟨x, h, rfl, _⟩ := h
    rfl
  · obtain ⟨x, h, rfl, LA, q⟩ := h
    obtain ⟨⟨dx, ux, l, B, wv, hx, U, O, hw⟩, N, un⟩ := id LA
    refine ⟨_, pss_cons (ps_if (pt_cmpR op_isN (pe_fld (pv 0) rfl) pe_non (nomark _)) (pss_one (ps_fld (pv 0) (pe_call GF hr rfl gF kF bF .nil pass0 (pa_cons (pe_fld (pv 0) rfl) pa_nil)) rfl)) pss_nil)
      (pss_one (ps_ret (pe_fld (pv 0) rfl))), ?_⟩
    have f0 : ∀ wv', Has (lF ux wv') "unfolding" (.ref ux) := fun wv' => look (ns := lN) 0 rfl (by decide +kernel) rfl
    have f1 : ∀ wv', Has (lF ux wv') "ways" wv' := fun wv' => look (ns := lN) 1 rfl (by decide +kernel) rfl
    refine ⟨_, rfl, x, c.L, dx, _, _, rfl, hx, TL.cl, TL.no _ (by decide +kernel), f1 wv, rfl, _, rfl, ?_⟩
    rcases hw with rfl | ⟨wd, W, as, rfl, h1, h2, h3⟩
    · refine ite2 (fun _ => ?_) (fun z => absurd rfl z)
      refine ⟨_, rfl, x, c.L, dx, _, _, rfl, hx, TL.cl, TL.no _ (by decide +kernel), f0 _, ux, l, h.g, h.m, h.u, B, rfl, U, O, N, fun H1 wd W as s1 nw gw hW hA _ => ?_⟩
      refine ⟨_, rfl, x, c.L, dx, _, rfl, s1 _ _ hx, TL.cl, TL.no _ (by decide +kernel), (by show 2 < 1000; decide), ?_⟩
      rw [show putF "ways" (.ref wd) (lF ux .non) = lF ux (.ref wd) from putA (ns := lN) 1 rfl (by decide +kernel)]
      have hx1 := s1 _ _ hx
      have k2 : Keep [x] H1 (upd H1 x (.ins c.L dx (lF ux (.ref wd)))) := Keep.upd (fun _ _ h _ => h) (Or.inl (by simp))
      have WV : WayV (upd H1 x (.ins c.L dx (lF ux (.ref wd)))) h.u (.ref wd) := WayV.keepI (.inr ⟨wd, W, as, rfl, gw, hW, hA⟩) k2 hx1
      have U2 := (U.same s1).keepX k2 hx1 (by show lN ∉ _; decide +kernel)
      refine ⟨_, rfl, x, c.L, dx, _, _, rfl, upd_same, TL.cl, TL.no _ (by decide +kernel), f1 _, ?_⟩
      rcases WV with z | ⟨wd', W', as', z, g1, g2, g3⟩
      · cases z
      · cases z
        exact q _ wd W' as' ((Keep.same s1).trans k2) ⟨⟨dx, ux, l, B, .ref wd, upd_same, U2, O, .inr ⟨wd, W', as', rfl, g1, g2, g3⟩⟩, N, un⟩ ⟨g1, g2, g3⟩
    · refine ite2 (fun z => absurd (of_decide_eq_true z) (fun z => by cases z)) (fun _ => ?_)
      exact ⟨_, rfl, x, c.L, dx, _, _, rfl, hx, TL.cl, TL.no _ (by decide +kernel), f1 _, q H wd W as (fun _ _ h _ => h) LA ⟨h1, h2, h3⟩⟩
/-! ### tell_reach -/
theorem keys_rows {H : Hp} : ∀ {W : List (List Nat × List Nat)} {as bs : List Addr}, as.length = W.length → IsKeys H (kvW W as) bs → AllAt (TupAt H) bs (W.map (·.1))
  | [], [], bs, _, h => by
    have h : Paired _ [] bs := h
    cases h
    exact AllAt.nil
  | (m, r) :: W, a :: as, bs, hl, h => by
    have h : Paired _ ((mk m, V.ref a) :: kvW W as) bs := h
    cases h with
    | cons h1 h2 =>
      have ih := keys_rows (W := W) (as := as) (by simpa using hl) h2
      refine ⟨by simp [ih.len], fun i b x hb hx => ?_⟩
      cases i with
      | zero =>
        simp only [List.getElem?_cons_zero, Option.some.injEq, List.map_cons] at hb hx
        subst hb hx
        rw [mk_kV] at h1
        exact h1
      | succ i =>
        rw [List.getElem?_cons_succ] at hb
        rw [List.map_cons, List.getElem?_cons_succ] at hx
        exact ih.at_ i b x hb hx
abbrev sRch : Stmt := inClass (top 45) 8
abbrev nRch : List Str := ["self", "markings", "told", "marking"]
theorem scRch : FnScope nRch ["self"] (defScope sRch) := ⟨rfl, rfl, rfl, by decide +kernel, rfl, by decide +kernel, by decide +kernel⟩
def spRch (c : Cs) : Sp := fun vs H Q _ => ∃ (x : Addr) (h : House), vs = [.ref x] ∧ LineAt c H x h ∧ ∀ (H' : Hp) (p : Addr), Keep [x] H H' → LineAt c H' x h → H p = none → IntsAt H' p (ansOf h .reach) → Q (.ref p) H'
def rchRow (m : List Nat) : List Nat := m.length :: m
theorem rch_len {L : List (List Nat)} (h : ∀ m, m ∈ L → m.length ≤ 9) : ∀ i, ((L.take i).flatMap rchRow).length ≤ 10 * i := by
  intro i
  induction i with
  | zero => simp
  | succ i ih =>
    cases e : L[i]? with
    | none =>
      have : L.length ≤ i := List.getElem?_eq_none_iff.mp e
      rw [List.take_of_length_le (by omega)]
      rw [List.take_of_length_le (by omega)] at ih
      omega
    | some m =>
      have := h m (List.mem_of_getElem? e)
      rw [take1 e, List.flatMap_append, List.length_append, List.flatMap_singleton]
      show _ + (m.length + 1) ≤ _
      omega
theorem ok_rch {c : Cs} {f fK : Addr} {fd fdK : FuncData} (F : Fun K "tell_reach" "Line.tell_reach" sRch f fd) (TL : ClsT K mg "Line" c.L lN) (gLen : mg "len" = none) (gSor : mg "sorted" = none)
    (GK : FnOk P w K mg base CX0 4 fK fdK ["self"] (spKnw c)) (bK : Binds K fdK ["self"] []) (mK : Meth K c.L "known_ways" fK) : FnOk P w K mg base CX0 5 f fd ["self"] (spRch c) := by
  refine F.ok scRch (fun vs H Q E h => ?_) (fun cdv A outer s H vs Q E hr h => ?_)
  · obtain ⟨x, h, rfl, _⟩ := h
    rfl
  · obtain ⟨x, h, rfl, LA, q⟩ := h
    have hu := hr.units
    refine ⟨_, pss_cons (ps_set (i := 1) scRch.nd rfl (Or.inl rfl) (pe_callB (NuR.cr_sortedD rfl hu) (by rfl) gSor (by decide +kernel) (pa_cons (pe_meth0 (pv 0) TL.cl mK GK hr bK .nil pass0) pa_nil)))
      (pss_cons (ps_set (i := 2) scRch.nd rfl (Or.inl rfl) (pe_lst (pa_cons (pe_callB call_len_seq (by rfl) gLen PySem.boot_len (pa_cons (pv 1) pa_nil)) pa_nil)))
      (pss_cons (ps_for PassesOwn.never rfl (pi_list (pv 1)) (pg_name (i := 3) scRch.nd rfl (Or.inl rfl))
        (pss_cons (ps_expr (pe_bm PySem.F.plainAttrs_list PySem.F.slot_list_append PySem.F.type_list_append mt_append (pv 2) (pa_cons (pe_callB call_len_seq (by rfl) gLen PySem.boot_len (pa_cons (pv 3) pa_nil)) pa_nil)))
        (pss_one (ps_expr (pe_bm PySem.F.plainAttrs_list PySem.F.slot_list_extend PySem.F.type_list_extend NuR.mt_extT (pv 2) (pa_cons (pv 3) pa_nil))))))
      (pss_one (ps_ret (pv 2))))), ?_⟩
    obtain ⟨dx0, ux0, l0, B0, wv0, hx0, _⟩ := LA.ex
    refine ⟨_, rfl, x, dx0, _, rfl, hx0, nolook (ns := lN) rfl (by decide +kernel), x, h, rfl, LA, fun H1 wd W as k1 LA1 WA => ?_⟩
    obtain ⟨⟨dx, ux, l, B, wv, hx, U, O, _⟩, N, _⟩ := id LA1
    have few := ways_few O N WA.ok
    refine ⟨wd, kvW W as, rfl, .inl WA.at_, fun p hp => ?_, fun ys p2 bs hK hp hs n2 => ?_⟩
    · obtain ⟨i, z, a, _, _, rfl⟩ := kvW_mem hp
      exact ⟨z.1.map Int.ofNat, by show mk z.1 = _; unfold mk; rw [List.map_map]; rfl⟩
    have hB := keys_rows WA.rows.len hK
    obtain ⟨cs, rfl, hcp⟩ := perm_refs hp
    have tup : ∀ b, b ∈ cs → TupAt H1 b (rowAt H1 b) := fun b hb => by
      obtain ⟨i, hi⟩ := List.mem_iff_getElem?.mp (hcp.mem_iff.mp hb)
      obtain ⟨r, _, hr⟩ := hB.get' hi
      rw [rowAt_of hr]
      exact hr
    have hRp : (cs.map (rowAt H1)).Perm (W.map (·.1)) := by
      rw [AllAt.eq_map hB]
      exact hcp.map _
    have hRA : AllAt (TupAt H1) cs (cs.map (rowAt H1)) := ⟨by rw [List.length_map], fun i a r ha hr => by
      rw [List.getElem?_map, ha] at hr
      cases hr
      exact tup a (List.mem_of_getElem? ha)⟩
    have hRs : Nu.Sorted (cs.map (rowAt H1)) := by
      have nd : (cs.map (rowAt H1)).Nodup := hRp.nodup_iff.mpr WA.ok.nd
      unfold Nu.Sorted
      rw [List.pairwise_map] at hs
      rw [List.Nodup, List.pairwise_map] at nd
      rw [List.pairwise_map]
      refine List.Pairwise.imp_of_mem (fun {a b} ha hb hab => ?_) (hs.and nd)
      have h1 := hab.1
      unfold NuR.ltT at h1
      rw [tInts_of (tup a ha), tInts_of (tup b hb), lex_before] at h1
      rcases Nu.before_total (rowAt H1 a) (rowAt H1 b) with z | z | z
      · exact z
      · exact absurd z hab.2
      · rw [h1] at z; cases z
    generalize cs.map (rowAt H1) = R at hRp hRA hRs
    have est := Nu.reach_told O.good O.e40 WA.ok hRs fun z => hRp.mem_iff
    have lenR : R.length ≤ 512 := by rw [hRp.length_eq, List.length_map]; exact few.1
    have m9 : ∀ m, m ∈ R → m.length ≤ 9 := fun m hm => (few.2 m (hRp.mem_iff.mp hm)).2
    have s2 : Same H1 (upd H1 p2 (.lst (cs.map V.ref))) := snew (Same.refl _) n2
    refine ⟨_, rfl, p2, _, rfl, .inl (SqL.of upd_same), by show 1 ≤ sizeLine; decide, fun T nT => ?_⟩
    rw [List.length_map, hRA.len]
    have g2 : upd H1 p2 (.lst (cs.map V.ref)) p2 = some (.lst (cs.map V.ref)) := upd_same
    generalize upd H1 p2 (.lst (cs.map V.ref)) = H2 at s2 nT g2 ⊢
    have sT : Same H2 (upd H2 T (.lst [natV R.length])) := snew (Same.refl _) nT
    have nT1 := s2.free nT
    refine ⟨_, rfl, p2, rfl, ⟨_, SqL.of (sT _ _ g2)⟩, for_list (K := K) (a := p2) (xs := cs.map V.ref) (fun i σ H' => Same H2 H' ∧ (∃ v, σ = [some (.ref x), some (.ref p2), some (.ref T), v]) ∧ H' T = some (.lst (natV R.length :: nats ((R.take i).flatMap rchRow)))) ⟨sT, ⟨_, rfl⟩, upd_same⟩ (fun i σ H' _ h => SqL.of (h.1 _ _ g2)) ?_ ?_⟩
    · rintro i y σ H3 hi ⟨s3, ⟨v, rfl⟩, gT⟩
      obtain ⟨b, hb, rfl⟩ := refs_get hi
      obtain ⟨m, hm, hmt⟩ := hRA.get' hb
      have hil := (List.getElem?_eq_some_iff.mp hm).1
      have hl := rch_len m9 i
      have hml := m9 m (List.mem_of_getElem? hm)
      have hmt3 : TupAt H3 b m := s3 _ _ (s2 _ _ hmt)
      have bT : b ≠ T := fun e => by
        rw [e] at hmt3
        rw [show H3 T = _ from hmt3] at gT
        cases gT
      have big : ∀ k, k ≤ 10000 → k ≤ sizeLine := fun k hk => Nat.le_trans hk (by decide)
      refine ⟨_, rfl, .inl ⟨rfl, _, SqL.of gT⟩, _, rfl, b, _, rfl, .inr (SqT.of hmt3), T, _, _, rfl, rfl, gT, ?_, ?_⟩
      · rw [List.length_cons, nats_len]
        exact Nat.lt_of_lt_of_le (Nat.lt_succ_self _) (big _ (by omega))
      refine ⟨_, rfl, .inl ⟨rfl, _, SqL.of upd_same⟩, _, rfl, T, b, _, _, rfl, rfl, upd_same, SqT.of ((upd_ne bT).trans hmt3), ?_, ?_⟩
      · rw [List.length_append, List.length_cons, nats_len, nats_len]
        show _ + 1 + 1 + _ ≤ _
        exact big _ (by omega)
      · refine ⟨Same.upd' (Same.upd' s3 nT) nT, ⟨_, rfl⟩, ?_⟩
        rw [upd_same, take1 hm, List.flatMap_append, List.flatMap_singleton, nats_app, nats_len]
        show some (HO.lst (((natV R.length :: nats _) ++ [natV m.length]) ++ nats m)) = some (HO.lst (natV R.length :: (nats _ ++ (natV m.length :: nats m))))
        simp
    · rintro σ H3 ⟨s3, ⟨v, rfl⟩, gT⟩
      rw [List.length_map, hRA.len, List.take_length] at gT
      refine ⟨_, rfl, q H3 T (k1.trans (Keep.same (s2.trans s3))) (LA1.same (s2.trans s3)) ?_ ?_⟩
      · refine k1.free (fun e => ?_) nT1
        rw [List.mem_singleton.mp e, hx] at nT1
        cases nT1
      · show H3 T = _
        rw [gT]
        unfold ansOf
        rw [est]
        show some (HO.lst (natV R.length :: nats (R.flatMap rchRow))) = some (HO.lst (V.int (R.length : Int) :: (Sq63.ints (R.flatMap fun m => m.length :: m)).map V.int))
        unfold Sq63.ints
        rw [← nats_ints]
        rfl
end NuP
end
/-! # NuP31 -/
section
set_option Elab.async false
set_option maxRecDepth 100000
set_option maxHeartbeats 4000000
set_option linter.all false
namespace NuP
open PySem PySem.Spec PyProof.Rows L2
open Sq63 (Net Places Transition Unfolding House)
variable {P : Program} {w : World} {K : PySem.W.Frag} {mg : Str → Option Value} {base : Heap}
/-! ### tell_way -/
abbrev sWay : Stmt := inClass (top 45) 9
abbrev nWay : List Str := ["self", "places", "ways", "marking", "happened", "event"]
theorem scWay : FnScope nWay ["self", "places"] (defScope sWay) := ⟨rfl, rfl, rfl, by decide +kernel, rfl, by decide +kernel, by decide +kernel⟩
def spWay (c : Cs) : Sp := fun vs H Q _ => ∃ (x la : Addr) (h : House) (ls : List Nat), vs = [.ref x, .ref la] ∧ LineAt c H x h ∧ ListAt H la ls ∧ ls.length ≤ 20000 ∧ ∀ (H' : Hp) (p : Addr), Keep [x] H H' → LineAt c H' x h → H p = none → IntsAt H' p (ansOf h (.way ls)) → Q (.ref p) H'
def trOfE (u : Unfolding) (e : Nat) : Nat := ((u.events[e]?).map fun x => x.t).getD 0
theorem ok_way {c : Cs} {f fI fK : Addr} {fd fdI fdK : FuncData} {t1 t2 : Tok} (F : Fun K "tell_way" "Line.tell_way" sWay f fd) (TL : ClsT K mg "Line" c.L lN) (TU : ClsT K mg "Unfolding" c.U uN) (TE : ClsT K mg "Event" c.E evN) (TN : ClsT K mg "Net" c.N ["places", "transitions", "marking"]) (gLen : mg "len" = none) (gTup : mg "tuple" = none) (gS : mg "NOT_TOLD_SO" = some (.int (-3) t1)) (gN : mg "NOT_THERE" = some (.int (-2) t2))
    (GI : FnOk P w K mg base CX0 1 fI fdI ["numbers", "bound"] (spRis K)) (bI : Binds K fdI ["numbers", "bound"] []) (gI : mg "is_rising_below" = some (.ref fI)) (kI : PySem.W.keepIn K (.ref fI) = true)
    (GK : FnOk P w K mg base CX0 4 fK fdK ["self"] (spKnw c)) (bK : Binds K fdK ["self"] []) (mK : Meth K c.L "known_ways" fK) : FnOk P w K mg base CX0 5 f fd ["self", "places"] (spWay c) := by
  refine F.ok scWay (fun vs H Q E h => ?_) (fun cdv A outer s H vs Q E hr h => ?_)
  · obtain ⟨x, la, h, ls, rfl, _⟩ := h
    rfl
  · obtain ⟨x, la, h, ls, rfl, LA, gl, hll, q⟩ := h
    have hr1 : Room 1 _ := hr.mono (by decide)
    have hu := hu_of hr
    refine ⟨_, pss_cons (ps_if (pt_not (pt_val (pe_call GI hr1 rfl gI kI bI .nil pass0 (pa_cons (pv 1) (pa_cons (pe_fld (pe_fld (pe_fld (pv 0) rfl) rfl) rfl) pa_nil))))) (pss_one (ps_ret (pe_lst (pa_cons (pe_glob (v := .int (-3)) rfl gS ⟨_, rfl⟩) pa_nil)))) pss_nil)
      (pss_cons (ps_set (i := 2) scWay.nd rfl (Or.inl rfl) (pe_meth0 (pv 0) TL.cl mK GK hr bK .nil pass0))
      (pss_cons (ps_set (i := 3) scWay.nd rfl (Or.inl rfl) (pe_callTy call_tuple_of (by rfl) gTup (by decide +kernel) (pa_cons (pv 1) pa_nil)))
      (pss_cons (ps_if (pt_cmp (pc_dnotin hu (pv 3) (pv 2))) (pss_one (ps_ret (pe_lst (pa_cons (pe_glob (v := .int (-2)) rfl gN ⟨_, rfl⟩) pa_nil)))) pss_nil)
      (pss_cons (ps_set (i := 4) scWay.nd rfl (Or.inl rfl) (pe_dget hu (pv 2) (pv 3) (fun _ _ => rfl)))
      (pss_one (ps_ret (pe_op op_cat (pe_lst (pa_cons (pe_callB call_len_seq (by rfl) gLen PySem.boot_len (pa_cons (pv 4) pa_nil)) pa_nil))
        (pe_lc (own := [("event", 5)]) (g := gName 5) (tt := tYes) (te := tFld K (tOp (rIxL K) (tFld K (tFld K (tVar 0) "unfolding") "events") (tVar 5)) "transition") rfl scWay.nd (pi_tup (pv 4)) (blkOk_by (own := [("event", 5)]) (N := nWay) (sc := defScope sWay) (by decide +kernel))
          (fun _ _ _ _ _ => pg_name (i := 5) scWay.nd rfl (Or.inl rfl)) (fun _ _ _ _ _ => pts_nil) (fun _ _ _ _ _ => pe_fld (pe_ix ix_list (pe_fld (pe_fld (pv 0) rfl) rfl) (pv 5) (fun _ _ => rfl)) rfl))))))))), ?_⟩
    obtain ⟨⟨dx, ux, l, B, wv, hx, U, O, _⟩, N, _⟩ := id LA
    have fU : ∀ k i v, uN.findIdx? (· == k) = some i → (uF l)[i]?.map (·.2) = some v → Has (uF l) k v := fun k i v h1 h2 => look (ns := uN) i rfl h1 h2
    have gu := (wo_at U.ux).1
    have gnet := (wo_at U.un).1
    refine ⟨_, rfl, _, rfl, x, c.L, dx, _, _, rfl, hx, TL.cl, TL.no _ (by decide +kernel), look (ns := lN) 0 rfl (by decide +kernel) rfl, ux, c.U, l.dx, uF l, _, rfl, gu, TU.cl, TU.no _ (by decide +kernel), fU "net" 0 _ (by decide +kernel) rfl, l.net, c.N, l.dn, _, _, rfl, gnet, TN.cl, TN.no _ (by decide +kernel), look (ns := ["places", "transitions", "marking"]) 0 rfl (by decide +kernel) rfl, la, ls, h.g.n, rfl, SqL.of gl, hll, _, rfl, ?_⟩
    have ans : ∀ (z : Int) (H1 : Hp), Keep [x] H H1 → LineAt c H1 x h → ansOf h (.way ls) = [z] → ∀ p, H1 p = none → Q (.ref p) (upd H1 p (.lst [.int z])) := by
      intro z H1 k1 L1 ez p np
      obtain ⟨dx', ux', l', B', wv', hx', _⟩ := L1.ex
      refine q _ p (k1.trans (Keep.same (snew (Same.refl _) np))) (L1.same (snew (Same.refl _) np)) (k1.free (fun e => ?_) np) ?_
      · rw [List.mem_singleton.mp e, hx'] at np
        cases np
      · show upd H1 p _ p = _
        rw [upd_same, ez]
        rfl
    cases hm : Sq63.placesOk h.g.n ls with
    | false =>
      refine iteT ⟨by show 1 ≤ sizeLine; decide, fun p np => ans _ H (fun _ _ h _ => h) LA ?_ p np⟩
      unfold ansOf
      rw [Nu.way_bad hm]
      rfl
    | true =>
      refine iteF ⟨_, rfl, x, dx, _, rfl, hx, nolook (ns := lN) rfl (by decide +kernel), x, h, rfl, LA, fun H1 wd W as k1 LA1 WA => ?_⟩
      obtain ⟨⟨dx1, ux1, l1, B1, wv1, hx1, U1, O1, _⟩, _, _⟩ := id LA1
      have gl1 : ListAt H1 la ls := k1 _ _ gl fun e => by
        rw [List.mem_singleton.mp e] at gl
        rw [show H x = _ from gl] at hx
        cases hx
      refine ⟨_, rfl, la, _, rfl, .inl ⟨SqL.of gl1, fun mt nmt => ?_⟩⟩
      have s2 : Same H1 (upd H1 mt (.tup (nats ls))) := snew (Same.refl _) nmt
      have gmt : TupAt (upd H1 mt (.tup (nats ls))) mt ls := upd_same
      have k2 := k1.trans (Keep.same s2)
      have LA2 := LA1.same s2
      have WA2 := WA.same s2
      have hx2 := s2 _ _ hx1
      have U2 := U1.same s2
      have nfree : ∀ {p : Addr}, upd H1 mt (.tup (nats ls)) p = none → H p = none := fun {p} np => k2.free (fun e => by rw [List.mem_singleton.mp e, hx2] at np; cases np) np
      generalize upd H1 mt (.tup (nats ls)) = H2 at gmt k2 LA2 WA2 hx2 U2 nfree ⊢
      refine ⟨_, rfl, _, rfl, wd, _, rfl, DGet.t (k := mk ls) WA2.at_ (gmt.trans (by rw [mk_kV])), _, rfl, ?_⟩
      cases hv : valV (kvW W as) (mk ls) with
      | none =>
        refine iteT ⟨by show 1 ≤ sizeLine; decide, fun p np => ans _ H2 k2 LA2 ?_ p np⟩
        unfold ansOf
        rw [Nu.way_none hm O.good O.e40 WA2.ok (kvW_none WA2.rows.len hv)]
        rfl
      | some v =>
        obtain ⟨i, r, a, h1, h2, rfl⟩ := kvW_some hv
        have hin : (ls, r) ∈ W := List.mem_of_getElem? h1
        have hrow : TupAt H2 a r := WA2.rows.at_ i a _ h2 h1
        have Cr := (WA2.ok.at_ ls r hin).1
        have rl := Cr.len
        have e40 := O.e40
        have est := Nu.way_some hm O.good O.e40 WA2.ok hin
        refine iteF ⟨_, rfl, _, rfl, wd, V.ref a, rfl, ?_, ?_⟩
        · have := DGet.t (k := mk ls) WA2.at_ (gmt.trans (by rw [mk_kV]))
          rw [hv] at this
          exact this
        refine ⟨_, rfl, a, _, rfl, .inr (SqT.of hrow), by show 1 ≤ sizeLine; decide, fun p3 n3 => ?_⟩
        rw [nats_len]
        have s3 : Same H2 (upd H2 p3 (.lst [natV r.length])) := snew (Same.refl _) n3
        refine ⟨_, rfl, a, rfl, ⟨_, SqT.of (s3 _ _ hrow)⟩, fun D hD => ?_⟩
        have fU1 : ∀ k i v, uN.findIdx? (· == k) = some i → (uF l1)[i]?.map (·.2) = some v → Has (uF l1) k v := fun k i v h1 h2 => look (ns := uN) i rfl h1 h2
        have gu2 := (wo_at U2.ux).1
        refine lc_pure (walk_tup (K := K) (a := a) (xs := nats r)) yAt (p := fun _ => true) (f := fun j => natV (trOfE h.u (r.getD j 0))) hD (by rw [nats_len]; exact sz400 (by omega)) (fun H s4 => SqT.of (s4 _ _ (s3 _ _ hrow))) (fun x => rfl) (fun j H Q _ _ h => h) (fun j H4 Q4 hj _ s4 hq => ?_) fun H4 s4 g4 => ?_
        · rw [nats_len] at hj
          have hg : r[j]? = some (r.getD j 0) := by rw [List.getD_eq_getElem?_getD, List.getElem?_eq_getElem hj]; rfl
          have hel := Cr.cfg.lt _ (List.mem_of_getElem? hg)
          obtain ⟨ea, hea, hE⟩ := U2.uE.get (i := r.getD j 0) (by rw [evD_get, List.getElem?_eq_getElem hel]; rfl)
          obtain ⟨de, us, md, nd, mk', g1, _⟩ := hE.same wo_same
          have s34 := s3.trans s4
          rw [getD_nats (a := r.getD j 0) hg]
          have et : trOfE h.u (r.getD j 0) = (h.u.events[r.getD j 0]'hel).t := by unfold trOfE; rw [List.getElem?_eq_getElem hel]; rfl
          rw [et] at hq
          exact ⟨_, rfl, x, c.L, dx1, _, _, rfl, s34 _ _ hx2, TL.cl, TL.no _ (by decide +kernel), look (ns := lN) 0 rfl (by decide +kernel) rfl, ux1, c.U, l1.dx, uF l1, _, rfl, s34 _ _ gu2, TU.cl, TU.no _ (by decide +kernel), fU1 "events" 1 _ (by decide +kernel) rfl, _, rfl, l1.evs, _, _, V.ref ea, rfl, rfl, SqL.of (s34 _ _ U2.ue), atI_nat (by rw [List.getElem?_map, hea]; rfl), ea, c.E, de, _, _, rfl, s34 _ _ g1, TE.cl, TE.no _ (by decide +kernel), look (ns := evN) 0 rfl (by decide +kernel) rfl, hq⟩
        · rw [filter_yes, nats_len, range_map r (fun e => natV (trOfE h.u e)) _ (fun j e he => by rw [List.getD_eq_getElem?_getD, he]; rfl)] at g4
          refine ⟨p3, D, _, _, rfl, rfl, s4 _ _ upd_same, g4, ?_, fun p5 n5 => ?_⟩
          · rw [List.length_map]
            show 1 + r.length ≤ _
            exact sz400 (by omega)
          · have s35 : Same H2 (upd H4 p5 (.lst ([natV r.length] ++ r.map fun e => natV (trOfE h.u e)))) := snew (s3.trans s4) n5
            refine q _ p5 (k2.trans (Keep.same s35)) (LA2.same s35) (nfree ((s3.trans s4).free n5)) ?_
            show upd H4 p5 _ p5 = _
            rw [upd_same]
            unfold ansOf
            rw [est]
            show some (HO.lst (natV r.length :: r.map fun e => natV (trOfE h.u e))) = some (HO.lst (V.int (r.length : Int) :: (Sq63.ints (r.map (trOfE h.u))).map V.int))
            unfold Sq63.ints
            rw [List.map_map, List.map_map]
            rfl
end NuP
end
/-! # NuP32 -/
section
set_option Elab.async false
set_option maxRecDepth 100000
set_option maxHeartbeats 4000000
set_option linter.all false
namespace NuP
open PySem PySem.Spec PyProof.Rows L2
open Sq63 (Net Places Transition Unfolding House)
variable {P : Program} {w : World} {K : PySem.W.Frag} {mg : Str → Option Value} {base : Heap}
/-! ### what a call leaves -/
theorem st_event (h : House) (e : Nat) : (h.step (.event e)).1 = h := by
  simp only [Sq63.House.step]
  cases h.u.events[e]? <;> rfl
theorem st_two (h : House) (e f : Nat) : (h.step (.two e f)).1 = h := by
  simp only [Sq63.House.step]
  cases h.u.events[e]? <;> cases h.u.events[f]? <;> rfl
theorem st_there (h : House) (l : List Nat) : (h.step (.there l)).1 = h := by
  simp only [Sq63.House.step]
  split <;> rfl
theorem st_way (h : House) (m : List Nat) : (h.step (.way m)).1 = h := by
  simp only [Sq63.House.step]
  split
  · rfl
  · split <;> rfl
theorem ps_never {X : Cx} {st : Stmt} : PS X st (fun _ _ _ => False) := ⟨fun _ _ _ _ _ _ h => h.elim⟩
theorem ne_rd {c : Cs} {H : Hp} {x rd a : Addr} {h : House} {n : Nat} (L : LineAt c H x h) (R : RdAt c.R H rd a n) : x ≠ rd := fun e => by
  obtain ⟨dx, ux, l, B, wv, hx, _⟩ := L.ex
  obtain ⟨d, hd⟩ := R
  rw [e, hd] at hx
  have z := Option.some.inj hx
  have := HO.ins.inj z
  have : rdF a n = lF ux wv := this.2.2
  have := congrArg (List.map (·.1)) this
  have : rdN = lN := this
  revert this
  decide +kernel
/-- between two readings -/
structure Mid (c : Cs) (K : PySem.W.Frag) (H : Hp) (x rd a : Addr) (h : House) (l : List Nat) (n : Nat) (H' : Hp) : Prop where
  keep : Keep [rd] H H'
  line : LineAt c H' x h
  rdr : RdAt c.R H' rd a n
  seq : SqL K H' a (nats l)
theorem Mid.next {c : Cs} {H H1 H2 : Hp} {x rd a : Addr} {h : House} {l : List Nat} {n n' : Nat} (M : Mid c K H x rd a h l n H1) (k : Keep [rd] H1 H2) (r : RdAt c.R H2 rd a n') : Mid c K H x rd a h l n' H2 := by
  obtain ⟨d, hd⟩ := M.rdr
  exact ⟨M.keep.trans k, M.line.keepR k hd rfl, r, keepSqI k M.seq fun b hb => by rw [List.mem_singleton.mp hb]; exact ⟨_, _, _, hd⟩⟩
theorem Mid.free {c : Cs} {H H1 : Hp} {x rd a : Addr} {h : House} {l : List Nat} {n : Nat} (M : Mid c K H x rd a h l n H1) {p : Addr} (np : H1 p = none) : H p = none := by
  obtain ⟨d, hd⟩ := M.rdr
  refine M.keep.free (fun e => ?_) np
  rw [List.mem_singleton.mp e, hd] at np
  cases np
theorem Mid.lst {c : Cs} {H H1 H2 : Hp} {x rd a p : Addr} {h : House} {l r : List Nat} {n : Nat} (M : Mid c K H x rd a h l n H1) (k : Keep [rd] H1 H2) (g : ListAt H1 p r) : ListAt H2 p r := by
  obtain ⟨d, hd⟩ := M.rdr
  refine k _ _ g fun e => ?_
  rw [List.mem_singleton.mp e] at g
  rw [show H1 rd = _ from g] at hd
  cases hd
/-- the answer behind the last reading, where nothing changes -/
theorem Mid.same {c : Cs} {H H1 H2 : Hp} {x rd a p : Addr} {h : House} {l : List Nat} {n : Nat} (M : Mid c K H x rd a h l n H1) (s : Same H1 H2) (np : H1 p = none) : Keep [x, rd] H H2 ∧ LineAt c H2 x h ∧ RdAt c.R H2 rd a n ∧ H p = none := by
  obtain ⟨d, hd⟩ := M.rdr
  exact ⟨(M.keep.trans (Keep.same s)).mono fun b hb => by simp [List.mem_singleton.mp hb], M.line.same s, ⟨d, s _ _ hd⟩, M.free np⟩
/-- .. where the line changes -/
theorem Mid.upd {c : Cs} {H H1 H2 : Hp} {x rd a p : Addr} {h : House} {l : List Nat} {n : Nat} (M : Mid c K H x rd a h l n H1) (k : Keep [x] H1 H2) (np : H1 p = none) : Keep [x, rd] H H2 ∧ RdAt c.R H2 rd a n ∧ H p = none := by
  obtain ⟨d, hd⟩ := M.rdr
  refine ⟨(M.keep.mono (N := [x, rd]) fun b hb => by simp [List.mem_singleton.mp hb]).trans (k.mono fun b hb => by simp [List.mem_singleton.mp hb]), ⟨d, k _ _ hd fun e => ?_⟩, M.free np⟩
  exact ne_rd M.line M.rdr (List.mem_singleton.mp e).symm
/-! ### answer_next -/
abbrev sNxt : Stmt := top 46
abbrev nNxt : List Str := ["line", "reader", "call", "places", "transition_numbers", "first"]
theorem scNxt : FnScope nNxt ["line", "reader"] (defScope sNxt) := ⟨rfl, rfl, rfl, by decide +kernel, rfl, by decide +kernel, by decide +kernel⟩
theorem ok_nxt {c : Cs} {f fN fR fB fE fC f1 f2 fT fH fW : Addr} {fd fdN fdR fdB fdE fdC fd1 fd2 fdT fdH fdW : FuncData} {t1 t2 t3 t4 t5 t6 t7 t8 : Tok} (F : Fun K "answer_next" "answer_next" sNxt f fd) (TL : ClsT K mg "Line" c.L lN) (TR : ClsT K mg "RowReader" c.R rdN)
    (g1 : mg "BEGIN" = some (.int 1 t1)) (g2 : mg "EVENTS" = some (.int 2 t2)) (g3 : mg "CONDITIONS" = some (.int 3 t3)) (g4 : mg "EVENT" = some (.int 4 t4)) (g5 : mg "TWO" = some (.int 5 t5)) (g6 : mg "THERE" = some (.int 6 t6)) (g7 : mg "REACH" = some (.int 7 t7)) (g8 : mg "WAY" = some (.int 8 t8))
    (GN : FnOk P w K mg base CX0 1 fN fdN ["self"] (spRdN c.R K)) (bN : Binds K fdN ["self"] []) (mN : Meth K c.R "read_number" fN)
    (GR : FnOk P w K mg base CX0 2 fR fdR ["self"] (spRdR c.R K)) (bR : Binds K fdR ["self"] []) (mR : Meth K c.R "read_row" fR)
    (GB : FnOk P w K mg base CX0 7 fB fdB ["self", "places", "transition_numbers", "marking"] (spBeg c K)) (bB : Binds K fdB ["self", "places", "transition_numbers", "marking"] []) (mB : Meth K c.L "begin" fB)
    (GE : FnOk P w K mg base CX0 1 fE fdE ["self"] (spTell c evAns)) (bE : Binds K fdE ["self"] []) (mE : Meth K c.L "tell_events" fE)
    (GC : FnOk P w K mg base CX0 1 fC fdC ["self"] (spTell c cdAns)) (bC : Binds K fdC ["self"] []) (mC : Meth K c.L "tell_conditions" fC)
    (G1 : FnOk P w K mg base CX0 1 f1 fd1 ["self", "number"] (spOne c)) (b1 : Binds K fd1 ["self", "number"] []) (m1 : Meth K c.L "tell_event" f1)
    (G2 : FnOk P w K mg base CX0 3 f2 fd2 ["self", "first", "second"] (spTw2 c)) (b2 : Binds K fd2 ["self", "first", "second"] []) (m2 : Meth K c.L "tell_two" f2)
    (GT : FnOk P w K mg base CX0 4 fT fdT ["self", "conditions"] (spThe c)) (bT : Binds K fdT ["self", "conditions"] []) (mT : Meth K c.L "tell_there" fT)
    (GH : FnOk P w K mg base CX0 5 fH fdH ["self"] (spRch c)) (bH : Binds K fdH ["self"] []) (mH : Meth K c.L "tell_reach" fH)
    (GW : FnOk P w K mg base CX0 5 fW fdW ["self", "places"] (spWay c)) (bW : Binds K fdW ["self", "places"] []) (mW : Meth K c.L "tell_way" fW) : FnOk P w K mg base CX0 8 f fd ["line", "reader"] (spNxt c K) := by
  refine F.ok scNxt (fun vs H Q E h => ?_) (fun cdv A outer s H vs Q E hr h => ?_)
  · obtain ⟨x, rd, a, h, l, n, n', cl, rfl, _⟩ := h
    rfl
  · obtain ⟨x, rd, a, h, l, n, n', cl, rfl, LA, RA, hs, hc, hok, q⟩ := h
    have hr1 : Room 1 _ := hr.mono (by decide)
    have hr2 : Room 2 _ := hr.mono (by decide)
    have hr3 : Room 3 _ := hr.mono (by decide)
    have hr4 : Room 4 _ := hr.mono (by decide)
    have hr5 : Room 5 _ := hr.mono (by decide)
    refine ⟨_, pss_cons (ps_set (i := 2) scNxt.nd rfl (Or.inl rfl) (pe_meth0 (pv 1) TR.cl mN GN hr1 bN .nil pass0))
      (pss_cons (ps_if (pt_cmpR op_eq (pv 2) (pe_glob (v := .int 1) rfl g1 ⟨_, rfl⟩) (nomark _)) (pss_cons (ps_set (i := 3) scNxt.nd rfl (Or.inl rfl) (pe_meth0 (pv 1) TR.cl mN GN hr1 bN .nil pass0)) (pss_cons (ps_set (i := 4) scNxt.nd rfl (Or.inl rfl) (pe_meth0 (pv 1) TR.cl mR GR hr2 bR .nil pass0)) (pss_one (ps_ret (pe_meth (pv 0) TL.cl mB GB hr bB .nil pass0 (pa_cons (pv 3) (pa_cons (pv 4) (pa_cons (pe_meth0 (pv 1) TR.cl mR GR hr2 bR .nil pass0) pa_nil)))))))) pss_nil)
      (pss_cons (ps_if (pt_cmpR op_eq (pv 2) (pe_glob (v := .int 2) rfl g2 ⟨_, rfl⟩) (nomark _)) (pss_one (ps_ret (pe_meth0 (pv 0) TL.cl mE GE hr1 bE .nil pass0))) pss_nil)
      (pss_cons (ps_if (pt_cmpR op_eq (pv 2) (pe_glob (v := .int 3) rfl g3 ⟨_, rfl⟩) (nomark _)) (pss_one (ps_ret (pe_meth0 (pv 0) TL.cl mC GC hr1 bC .nil pass0))) pss_nil)
      (pss_cons (ps_if (pt_cmpR op_eq (pv 2) (pe_glob (v := .int 4) rfl g4 ⟨_, rfl⟩) (nomark _)) (pss_one (ps_ret (pe_meth (pv 0) TL.cl m1 G1 hr1 b1 .nil pass0 (pa_cons (pe_meth0 (pv 1) TR.cl mN GN hr1 bN .nil pass0) pa_nil)))) pss_nil)
      (pss_cons (ps_if (pt_cmpR op_eq (pv 2) (pe_glob (v := .int 5) rfl g5 ⟨_, rfl⟩) (nomark _)) (pss_cons (ps_set (i := 5) scNxt.nd rfl (Or.inl rfl) (pe_meth0 (pv 1) TR.cl mN GN hr1 bN .nil pass0)) (pss_one (ps_ret (pe_meth (pv 0) TL.cl m2 G2 hr3 b2 .nil pass0 (pa_cons (pv 5) (pa_cons (pe_meth0 (pv 1) TR.cl mN GN hr1 bN .nil pass0) pa_nil)))))) pss_nil)
      (pss_cons (ps_if (pt_cmpR op_eq (pv 2) (pe_glob (v := .int 6) rfl g6 ⟨_, rfl⟩) (nomark _)) (pss_one (ps_ret (pe_meth (pv 0) TL.cl mT GT hr4 bT .nil pass0 (pa_cons (pe_meth0 (pv 1) TR.cl mR GR hr2 bR .nil pass0) pa_nil)))) pss_nil)
      (pss_cons (ps_if (pt_cmpR op_eq (pv 2) (pe_glob (v := .int 7) rfl g7 ⟨_, rfl⟩) (nomark _)) (pss_one (ps_ret (pe_meth0 (pv 0) TL.cl mH GH hr5 bH .nil pass0))) pss_nil)
      (pss_cons (ps_if (pt_cmpR op_eq (pv 2) (pe_glob (v := .int 8) rfl g8 ⟨_, rfl⟩) (nomark _)) (pss_one (ps_ret (pe_meth (pv 0) TL.cl mW GW hr5 bW .nil pass0 (pa_cons (pe_meth0 (pv 1) TR.cl mR GR hr2 bR .nil pass0) pa_nil)))) pss_nil)
      (pss_one ps_never))))))))), ?_⟩
    have M0 : Mid c K H x rd a h l n H := ⟨fun _ _ h _ => h, LA, RA, hs⟩
    -- the reader and the line at a place between
    have rdO : ∀ {n1 : Nat} {H1 : Hp}, Mid c K H x rd a h l n1 H1 → ∃ d, H1 rd = some (.ins c.R d (rdF a n1)) := fun M => M.rdr
    have lnO : ∀ {n1 : Nat} {H1 : Hp}, Mid c K H x rd a h l n1 H1 → ∃ d ux wv, H1 x = some (.ins c.L d (lF ux wv)) := fun M => by
      obtain ⟨d, ux, _, _, wv, hx, _⟩ := M.line.ex
      exact ⟨d, ux, wv, hx⟩
    have eqN : ∀ (k m : Int), k ≠ m → decide (V.int k = V.int m) = false := fun k m hne => decide_eq_false fun z => hne (V.int.inj z)
    have eqY : ∀ (k : Int), decide (V.int k = V.int k) = true := fun k => decide_eq_true rfl
    obtain ⟨d0, hd0⟩ := rdO M0
    have yes : ∀ {k : Int} {A B : Prop}, A → (if decide (V.int k = V.int k) = true then A else B) := fun {k A B} hA => by rw [eqY, if_pos rfl]; exact hA
    have no : ∀ {k m : Int} {A B : Prop}, k ≠ m → B → (if decide (V.int k = V.int m) = true then A else B) := fun {k m A B} hne hB => by rw [eqN k m hne, if_neg (by simp)]; exact hB
    cases hc with
    | @begin_ pn n1 n2 r0 r1 h0 h1 hr0 hr1' =>
      obtain ⟨z0, e0, e1, e2, e3⟩ := hr0
      obtain ⟨z1, e4, e5, e6, e7⟩ := hr1'
      subst e3 e7
      refine ⟨_, rfl, rd, d0, _, rfl, hd0, nolook (ns := rdN) rfl (by decide +kernel), rd, a, n, _, l, rfl, RA, hs, h0, fun H1 R1 k1 => ?_⟩
      have M1 := M0.next k1 R1
      obtain ⟨d1, hd1⟩ := rdO M1
      refine ⟨_, rfl, rfl, _, rfl, yes ?_⟩
      refine ⟨_, rfl, rd, d1, _, rfl, hd1, nolook (ns := rdN) rfl (by decide +kernel), rd, a, n + 1, pn, l, rfl, M1.rdr, M1.seq, h1, fun H2 R2 k2 => ?_⟩
      have M2 := M1.next k2 R2
      obtain ⟨d2, hd2⟩ := rdO M2
      refine ⟨_, rfl, rd, d2, _, rfl, hd2, nolook (ns := rdN) rfl (by decide +kernel), rd, a, n + 2, z0, l, rfl, M2.rdr, M2.seq, e0, e1, fun H3 p3 R3 np3 g3 k3 => ?_⟩
      have M3 := M2.next k3 R3
      obtain ⟨d3, hd3⟩ := rdO M3
      obtain ⟨dl, ul, wl, hl⟩ := lnO M3
      refine ⟨_, rfl, x, dl, _, rfl, hl, nolook (ns := lN) rfl (by decide +kernel), _, rfl, _, rfl, _, rfl, rd, d3, _, rfl, hd3, nolook (ns := rdN) rfl (by decide +kernel), rd, a, _, z1, l, rfl, M3.rdr, M3.seq, e4, e5, fun H4 p4 R4 np4 g4 k4 => ?_⟩
      have M4 := M3.next k4 R4
      have g3' : ListAt H4 p3 r0 := M3.lst k4 (by rw [e2]; exact g3)
      simp only [tNil]
      have hok : r0.length ≤ 300 ∧ r1.length ≤ 20 := hok
      refine ⟨x, p3, p4, h, pn, r0, r1, rfl, M4.line, g3', by rw [e6]; exact g4, by omega, by omega, fun H5 p5 k5 np5 ia5 la5 => ?_⟩
      obtain ⟨q1, q2, q3⟩ := M4.upd k5 np5
      exact q H5 p5 q1 la5 q2 q3 ia5
    | events h0 =>
      refine ⟨_, rfl, rd, d0, _, rfl, hd0, nolook (ns := rdN) rfl (by decide +kernel), rd, a, n, _, l, rfl, RA, hs, h0, fun H1 R1 k1 => ?_⟩
      have M1 := M0.next k1 R1
      refine ⟨_, rfl, rfl, _, rfl, no (by decide) ?_⟩
      refine ⟨_, rfl, rfl, _, rfl, yes ?_⟩
      obtain ⟨dl, ul, wl, hl⟩ := lnO M1
      refine ⟨_, rfl, x, dl, _, rfl, hl, nolook (ns := lN) rfl (by decide +kernel), x, h, rfl, M1.line, fun H2 p s2 np ia => ?_⟩
      obtain ⟨q1, q2, q3, q4⟩ := M1.same s2 np
      exact q H2 p q1 q2 q3 q4 ia
    | conds h0 =>
      refine ⟨_, rfl, rd, d0, _, rfl, hd0, nolook (ns := rdN) rfl (by decide +kernel), rd, a, n, _, l, rfl, RA, hs, h0, fun H1 R1 k1 => ?_⟩
      have M1 := M0.next k1 R1
      refine ⟨_, rfl, rfl, _, rfl, no (by decide) ?_⟩
      refine ⟨_, rfl, rfl, _, rfl, no (by decide) ?_⟩
      refine ⟨_, rfl, rfl, _, rfl, yes ?_⟩
      obtain ⟨dl, ul, wl, hl⟩ := lnO M1
      refine ⟨_, rfl, x, dl, _, rfl, hl, nolook (ns := lN) rfl (by decide +kernel), x, h, rfl, M1.line, fun H2 p s2 np ia => ?_⟩
      obtain ⟨q1, q2, q3, q4⟩ := M1.same s2 np
      exact q H2 p q1 q2 q3 q4 (by rw [cdAns_step] at ia; exact ia)
    | @event e h0 h1 =>
      refine ⟨_, rfl, rd, d0, _, rfl, hd0, nolook (ns := rdN) rfl (by decide +kernel), rd, a, n, _, l, rfl, RA, hs, h0, fun H1 R1 k1 => ?_⟩
      have M1 := M0.next k1 R1
      refine ⟨_, rfl, rfl, _, rfl, no (by decide) ?_⟩
      refine ⟨_, rfl, rfl, _, rfl, no (by decide) ?_⟩
      refine ⟨_, rfl, rfl, _, rfl, no (by decide) ?_⟩
      refine ⟨_, rfl, rfl, _, rfl, yes ?_⟩
      obtain ⟨dl, ul, wl, hl⟩ := lnO M1
      obtain ⟨d1, hd1⟩ := rdO M1
      refine ⟨_, rfl, x, dl, _, rfl, hl, nolook (ns := lN) rfl (by decide +kernel), _, rfl, rd, d1, _, rfl, hd1, nolook (ns := rdN) rfl (by decide +kernel), rd, a, n + 1, e, l, rfl, M1.rdr, M1.seq, h1, fun H2 R2 k2 => ?_⟩
      have M2 := M1.next k2 R2
      simp only [tNil]
      refine ⟨x, h, e, rfl, M2.line, fun H3 p s3 np ia => ?_⟩
      obtain ⟨q1, q2, q3, q4⟩ := M2.same s3 np
      exact q H3 p q1 (by rw [st_event]; exact q2) q3 q4 ia
    | @two e f' h0 h1 h2 =>
      refine ⟨_, rfl, rd, d0, _, rfl, hd0, nolook (ns := rdN) rfl (by decide +kernel), rd, a, n, _, l, rfl, RA, hs, h0, fun H1 R1 k1 => ?_⟩
      have M1 := M0.next k1 R1
      refine ⟨_, rfl, rfl, _, rfl, no (by decide) ?_⟩
      refine ⟨_, rfl, rfl, _, rfl, no (by decide) ?_⟩
      refine ⟨_, rfl, rfl, _, rfl, no (by decide) ?_⟩
      refine ⟨_, rfl, rfl, _, rfl, no (by decide) ?_⟩
      refine ⟨_, rfl, rfl, _, rfl, yes ?_⟩
      obtain ⟨d1, hd1⟩ := rdO M1
      refine ⟨_, rfl, rd, d1, _, rfl, hd1, nolook (ns := rdN) rfl (by decide +kernel), rd, a, n + 1, e, l, rfl, M1.rdr, M1.seq, h1, fun H2 R2 k2 => ?_⟩
      have M2 := M1.next k2 R2
      obtain ⟨dl, ul, wl, hl⟩ := lnO M2
      obtain ⟨d2, hd2⟩ := rdO M2
      refine ⟨_, rfl, x, dl, _, rfl, hl, nolook (ns := lN) rfl (by decide +kernel), _, rfl, _, rfl, rd, d2, _, rfl, hd2, nolook (ns := rdN) rfl (by decide +kernel), rd, a, n + 2, f', l, rfl, M2.rdr, M2.seq, h2, fun H3 R3 k3 => ?_⟩
      have M3 := M2.next k3 R3
      simp only [tNil]
      refine ⟨x, h, e, f', rfl, M3.line, fun H4 p s4 np ia => ?_⟩
      obtain ⟨q1, q2, q3, q4⟩ := M3.same s4 np
      exact q H4 p q1 (by rw [st_two]; exact q2) q3 q4 ia
    | @there r n1 h0 hr0 =>
      obtain ⟨z0, e0, e1, e2, e3⟩ := hr0
      subst e3
      refine ⟨_, rfl, rd, d0, _, rfl, hd0, nolook (ns := rdN) rfl (by decide +kernel), rd, a, n, _, l, rfl, RA, hs, h0, fun H1 R1 k1 => ?_⟩
      have M1 := M0.next k1 R1
      refine ⟨_, rfl, rfl, _, rfl, no (by decide) ?_⟩
      refine ⟨_, rfl, rfl, _, rfl, no (by decide) ?_⟩
      refine ⟨_, rfl, rfl, _, rfl, no (by decide) ?_⟩
      refine ⟨_, rfl, rfl, _, rfl, no (by decide) ?_⟩
      refine ⟨_, rfl, rfl, _, rfl, no (by decide) ?_⟩
      refine ⟨_, rfl, rfl, _, rfl, yes ?_⟩
      obtain ⟨dl, ul, wl, hl⟩ := lnO M1
      obtain ⟨d1, hd1⟩ := rdO M1
      refine ⟨_, rfl, x, dl, _, rfl, hl, nolook (ns := lN) rfl (by decide +kernel), _, rfl, rd, d1, _, rfl, hd1, nolook (ns := rdN) rfl (by decide +kernel), rd, a, n + 1, z0, l, rfl, M1.rdr, M1.seq, e0, e1, fun H2 p2 R2 np2 g2 k2 => ?_⟩
      have M2 := M1.next k2 R2
      simp only [tNil]
      have hok : r.length ≤ 400 := hok
      refine ⟨x, p2, h, r, rfl, M2.line, by rw [e2]; exact g2, by omega, fun H3 p s3 np ia => ?_⟩
      obtain ⟨q1, q2, q3, q4⟩ := M2.same s3 np
      exact q H3 p q1 (by rw [st_there]; exact q2) q3 q4 ia
    | reach h0 =>
      refine ⟨_, rfl, rd, d0, _, rfl, hd0, nolook (ns := rdN) rfl (by decide +kernel), rd, a, n, _, l, rfl, RA, hs, h0, fun H1 R1 k1 => ?_⟩
      have M1 := M0.next k1 R1
      refine ⟨_, rfl, rfl, _, rfl, no (by decide) ?_⟩
      refine ⟨_, rfl, rfl, _, rfl, no (by decide) ?_⟩
      refine ⟨_, rfl, rfl, _, rfl, no (by decide) ?_⟩
      refine ⟨_, rfl, rfl, _, rfl, no (by decide) ?_⟩
      refine ⟨_, rfl, rfl, _, rfl, no (by decide) ?_⟩
      refine ⟨_, rfl, rfl, _, rfl, no (by decide) ?_⟩
      refine ⟨_, rfl, rfl, _, rfl, yes ?_⟩
      obtain ⟨dl, ul, wl, hl⟩ := lnO M1
      refine ⟨_, rfl, x, dl, _, rfl, hl, nolook (ns := lN) rfl (by decide +kernel), x, h, rfl, M1.line, fun H2 p k2 la2 np ia => ?_⟩
      obtain ⟨q1, q2, q3⟩ := M1.upd k2 np
      exact q H2 p q1 la2 q2 q3 ia
    | @way r n1 h0 hr0 =>
      obtain ⟨z0, e0, e1, e2, e3⟩ := hr0
      subst e3
      refine ⟨_, rfl, rd, d0, _, rfl, hd0, nolook (ns := rdN) rfl (by decide +kernel), rd, a, n, _, l, rfl, RA, hs, h0, fun H1 R1 k1 => ?_⟩
      have M1 := M0.next k1 R1
      refine ⟨_, rfl, rfl, _, rfl, no (by decide) ?_⟩
      refine ⟨_, rfl, rfl, _, rfl, no (by decide) ?_⟩
      refine ⟨_, rfl, rfl, _, rfl, no (by decide) ?_⟩
      refine ⟨_, rfl, rfl, _, rfl, no (by decide) ?_⟩
      refine ⟨_, rfl, rfl, _, rfl, no (by decide) ?_⟩
      refine ⟨_, rfl, rfl, _, rfl, no (by decide) ?_⟩
      refine ⟨_, rfl, rfl, _, rfl, no (by decide) ?_⟩
      refine ⟨_, rfl, rfl, _, rfl, yes ?_⟩
      obtain ⟨dl, ul, wl, hl⟩ := lnO M1
      obtain ⟨d1, hd1⟩ := rdO M1
      refine ⟨_, rfl, x, dl, _, rfl, hl, nolook (ns := lN) rfl (by decide +kernel), _, rfl, rd, d1, _, rfl, hd1, nolook (ns := rdN) rfl (by decide +kernel), rd, a, n + 1, z0, l, rfl, M1.rdr, M1.seq, e0, e1, fun H2 p2 R2 np2 g2 k2 => ?_⟩
      have M2 := M1.next k2 R2
      simp only [tNil]
      have hok : r.length ≤ 20 := hok
      refine ⟨x, p2, h, r, rfl, M2.line, by rw [e2]; exact g2, by omega, fun H3 p k3 la3 np ia => ?_⟩
      obtain ⟨q1, q2, q3⟩ := M2.upd k3 np
      exact q H3 p q1 (by rw [st_way]; exact la3) q2 q3 ia
end NuP
end
/-! # NuP33 -/
section
set_option Elab.async false
set_option maxRecDepth 100000
set_option maxHeartbeats 4000000
set_option linter.all false
namespace NuP
open PySem PySem.Spec PyProof.Rows L2
/-! ### the head: what the top has written, every address a letter -/
/-- a def stands at f -/
def Df (K : PySem.W.Frag) (x qual : Str) (st : Stmt) (f : Addr) : Prop := ∃ fd, Fun K x qual st f fd
theorem df_mk {K : PySem.W.Frag} {x qual : Str} {st : Stmt} {f : Addr} {oc : Value} {od an : Option Addr} {osl : Array (Option Value)} {kV doc pm cdv ct : Value} (l : K.lookup f = some ⟨oc, od, .func (PySem.W.fnOf x qual (defArgs st) (defBody st) (defScope st) .none kV doc pm an cdv ct), osl⟩) (c : PySem.W.codeIn K cdv qual = true) (k : PySem.W.keepIn K (.ref f) = true) : Df K x qual st f := ⟨_, fun_mk l c k⟩
theorem no_nil {K : PySem.W.Frag} {C : Addr} : ∀ f, f ∈ ([] : List Str) → NoAttr K C f := fun _ h => nomatch h
theorem no_cons {K : PySem.W.Frag} {C : Addr} {g : Str} {fs : List Str} (h : NoAttr K C g) (t : ∀ f, f ∈ fs → NoAttr K C f) : ∀ f, f ∈ g :: fs → NoAttr K C f := fun f m => (List.mem_cons.mp m).elim (fun e => by rw [e]; exact h) (t f)
theorem all_mk {P : Program} {w : World} {K : PySem.W.Frag} {h : Heap} {mg : Str → Option Value} {fa R T N C E U L f_has f_cond f_net f_trans f_may f_unt f_two f_fire f_ris f_spl f_rdI f_rdM f_rdN f_rdR f_read f_alw f_bnd f_evI f_let f_bit f_mkc f_bes f_ned f_mrk f_new f_cho f_pos f_add f_uni f_unf f_tev f_tcd f_one f_beg f_lin f_uby f_cls f_can f_rws f_fnd f_tw2 f_the f_knw f_rch f_way f_nxt f_ans : Addr} {t_MOST_TRANSITIONS t_MOST_MARKINGS t_FROM_THE_BEGINNING t_MOST_EVENTS t_NOT_THERE t_MOST_PLACES t_NOT_ALLOWED t_NOT_TOLD_SO t_OUT_OF_BOUNDS t_TOO_MANY_EVENTS t_THE_SAME t_SECOND_NEEDS_FIRST t_FIRST_NEEDS_SECOND t_CLASH t_SIDE_BY_SIDE t_BEGIN t_EVENTS t_CONDITIONS t_EVENT t_TWO t_THERE t_REACH t_WAY : Tok} (X : K.In h) (G : h.Ns mainGlobals mg) (hfa : mg "answers" = some (.ref fa))
    (a_R : PySem.W.nsIn K mainGlobals "RowReader" = some (some (.ref R)))
    (a_T : PySem.W.nsIn K mainGlobals "Transition" = some (some (.ref T)))
    (a_N : PySem.W.nsIn K mainGlobals "Net" = some (some (.ref N)))
    (a_C : PySem.W.nsIn K mainGlobals "Condition" = some (some (.ref C)))
    (a_E : PySem.W.nsIn K mainGlobals "Event" = some (some (.ref E)))
    (a_U : PySem.W.nsIn K mainGlobals "Unfolding" = some (some (.ref U)))
    (a_L : PySem.W.nsIn K mainGlobals "Line" = some (some (.ref L)))
    (a_has : PySem.W.nsIn K mainGlobals "has_bit" = some (some (.ref f_has)))
    (a_cond : PySem.W.findIn K (.ref C) "__init__" = some (some (.ref f_cond)))
    (i_cond : PySem.W.isFn K (.ref f_cond) = true)
    (a_net : PySem.W.findIn K (.ref N) "__init__" = some (some (.ref f_net)))
    (i_net : PySem.W.isFn K (.ref f_net) = true)
    (a_trans : PySem.W.findIn K (.ref T) "__init__" = some (some (.ref f_trans)))
    (i_trans : PySem.W.isFn K (.ref f_trans) = true)
    (a_may : PySem.W.findIn K (.ref T) "may_fire" = some (some (.ref f_may)))
    (i_may : PySem.W.isFn K (.ref f_may) = true)
    (a_unt : PySem.W.findIn K (.ref T) "untouched" = some (some (.ref f_unt)))
    (i_unt : PySem.W.isFn K (.ref f_unt) = true)
    (a_two : PySem.W.findIn K (.ref T) "makes_two_tokens" = some (some (.ref f_two)))
    (i_two : PySem.W.isFn K (.ref f_two) = true)
    (a_fire : PySem.W.findIn K (.ref T) "fire" = some (some (.ref f_fire)))
    (i_fire : PySem.W.isFn K (.ref f_fire) = true)
    (a_ris : PySem.W.nsIn K mainGlobals "is_rising_below" = some (some (.ref f_ris)))
    (a_spl : PySem.W.nsIn K mainGlobals "split_rows" = some (some (.ref f_spl)))
    (a_rdI : PySem.W.findIn K (.ref R) "__init__" = some (some (.ref f_rdI)))
    (i_rdI : PySem.W.isFn K (.ref f_rdI) = true)
    (a_rdM : PySem.W.findIn K (.ref R) "has_more" = some (some (.ref f_rdM)))
    (i_rdM : PySem.W.isFn K (.ref f_rdM) = true)
    (a_rdN : PySem.W.findIn K (.ref R) "read_number" = some (some (.ref f_rdN)))
    (i_rdN : PySem.W.isFn K (.ref f_rdN) = true)
    (a_rdR : PySem.W.findIn K (.ref R) "read_row" = some (some (.ref f_rdR)))
    (i_rdR : PySem.W.isFn K (.ref f_rdR) = true)
    (a_read : PySem.W.nsIn K mainGlobals "read_transitions" = some (some (.ref f_read)))
    (a_alw : PySem.W.nsIn K mainGlobals "are_transitions_allowed" = some (some (.ref f_alw)))
    (a_bnd : PySem.W.nsIn K mainGlobals "keeps_to_bounds" = some (some (.ref f_bnd)))
    (a_evI : PySem.W.findIn K (.ref E) "__init__" = some (some (.ref f_evI)))
    (i_evI : PySem.W.isFn K (.ref f_evI) = true)
    (a_let : PySem.W.findIn K (.ref U) "let_use" = some (some (.ref f_let)))
    (i_let : PySem.W.isFn K (.ref f_let) = true)
    (a_bit : PySem.W.nsIn K mainGlobals "bits_of" = some (some (.ref f_bit)))
    (a_mkc : PySem.W.findIn K (.ref U) "make_conditions" = some (some (.ref f_mkc)))
    (i_mkc : PySem.W.isFn K (.ref f_mkc) = true)
    (a_bes : PySem.W.findIn K (.ref U) "beside_all" = some (some (.ref f_bes)))
    (i_bes : PySem.W.isFn K (.ref f_bes) = true)
    (a_ned : PySem.W.findIn K (.ref U) "needed_to_make" = some (some (.ref f_ned)))
    (i_ned : PySem.W.isFn K (.ref f_ned) = true)
    (a_mrk : PySem.W.findIn K (.ref U) "marking_behind" = some (some (.ref f_mrk)))
    (i_mrk : PySem.W.isFn K (.ref f_mrk) = true)
    (a_new : PySem.W.findIn K (.ref U) "is_nothing_new" = some (some (.ref f_new)))
    (i_new : PySem.W.isFn K (.ref f_new) = true)
    (a_cho : PySem.W.findIn K (.ref U) "choices" = some (some (.ref f_cho)))
    (i_cho : PySem.W.isFn K (.ref f_cho) = true)
    (a_pos : PySem.W.findIn K (.ref U) "possible_with" = some (some (.ref f_pos)))
    (i_pos : PySem.W.isFn K (.ref f_pos) = true)
    (a_add : PySem.W.findIn K (.ref U) "add_event" = some (some (.ref f_add)))
    (i_add : PySem.W.isFn K (.ref f_add) = true)
    (a_uni : PySem.W.findIn K (.ref U) "__init__" = some (some (.ref f_uni)))
    (i_uni : PySem.W.isFn K (.ref f_uni) = true)
    (a_unf : PySem.W.nsIn K mainGlobals "unfold" = some (some (.ref f_unf)))
    (a_tev : PySem.W.findIn K (.ref L) "tell_events" = some (some (.ref f_tev)))
    (i_tev : PySem.W.isFn K (.ref f_tev) = true)
    (a_tcd : PySem.W.findIn K (.ref L) "tell_conditions" = some (some (.ref f_tcd)))
    (i_tcd : PySem.W.isFn K (.ref f_tcd) = true)
    (a_one : PySem.W.findIn K (.ref L) "tell_event" = some (some (.ref f_one)))
    (i_one : PySem.W.isFn K (.ref f_one) = true)
    (a_beg : PySem.W.findIn K (.ref L) "begin" = some (some (.ref f_beg)))
    (i_beg : PySem.W.isFn K (.ref f_beg) = true)
    (a_lin : PySem.W.findIn K (.ref L) "__init__" = some (some (.ref f_lin)))
    (i_lin : PySem.W.isFn K (.ref f_lin) = true)
    (a_uby : PySem.W.findIn K (.ref U) "used_by" = some (some (.ref f_uby)))
    (i_uby : PySem.W.isFn K (.ref f_uby) = true)
    (a_cls : PySem.W.findIn K (.ref U) "is_clash_within" = some (some (.ref f_cls)))
    (i_cls : PySem.W.isFn K (.ref f_cls) = true)
    (a_can : PySem.W.findIn K (.ref U) "can_be_at_once" = some (some (.ref f_can)))
    (i_can : PySem.W.isFn K (.ref f_can) = true)
    (a_rws : PySem.W.nsIn K mainGlobals "rows_that_can_have_happened" = some (some (.ref f_rws)))
    (a_fnd : PySem.W.nsIn K mainGlobals "find_ways" = some (some (.ref f_fnd)))
    (a_tw2 : PySem.W.findIn K (.ref L) "tell_two" = some (some (.ref f_tw2)))
    (i_tw2 : PySem.W.isFn K (.ref f_tw2) = true)
    (a_the : PySem.W.findIn K (.ref L) "tell_there" = some (some (.ref f_the)))
    (i_the : PySem.W.isFn K (.ref f_the) = true)
    (a_knw : PySem.W.findIn K (.ref L) "known_ways" = some (some (.ref f_knw)))
    (i_knw : PySem.W.isFn K (.ref f_knw) = true)
    (a_rch : PySem.W.findIn K (.ref L) "tell_reach" = some (some (.ref f_rch)))
    (i_rch : PySem.W.isFn K (.ref f_rch) = true)
    (a_way : PySem.W.findIn K (.ref L) "tell_way" = some (some (.ref f_way)))
    (i_way : PySem.W.isFn K (.ref f_way) = true)
    (a_nxt : PySem.W.nsIn K mainGlobals "answer_next" = some (some (.ref f_nxt)))
    (a_ans : PySem.W.nsIn K mainGlobals "answers" = some (some (.ref f_ans)))
    (d_has : Df K "has_bit" "has_bit" sHas f_has)
    (d_cond : Df K "__init__" "Condition.__init__" sCond f_cond)
    (d_net : Df K "__init__" "Net.__init__" sNet f_net)
    (d_trans : Df K "__init__" "Transition.__init__" sTrans f_trans)
    (d_may : Df K "may_fire" "Transition.may_fire" sMay f_may)
    (d_unt : Df K "untouched" "Transition.untouched" sUnt f_unt)
    (d_two : Df K "makes_two_tokens" "Transition.makes_two_tokens" sTwo f_two)
    (d_fire : Df K "fire" "Transition.fire" sFire f_fire)
    (d_ris : Df K "is_rising_below" "is_rising_below" sRis f_ris)
    (d_spl : Df K "split_rows" "split_rows" sSpl f_spl)
    (d_rdI : Df K "__init__" "RowReader.__init__" sRdI f_rdI)
    (d_rdM : Df K "has_more" "RowReader.has_more" sRdM f_rdM)
    (d_rdN : Df K "read_number" "RowReader.read_number" sRdN f_rdN)
    (d_rdR : Df K "read_row" "RowReader.read_row" sRdR f_rdR)
    (d_read : Df K "read_transitions" "read_transitions" sRead f_read)
    (d_alw : Df K "are_transitions_allowed" "are_transitions_allowed" sAlw f_alw)
    (d_bnd : Df K "keeps_to_bounds" "keeps_to_bounds" sBnd f_bnd)
    (d_evI : Df K "__init__" "Event.__init__" sEvI f_evI)
    (d_let : Df K "let_use" "Unfolding.let_use" sLet f_let)
    (d_bit : Df K "bits_of" "bits_of" sBit f_bit)
    (d_mkc : Df K "make_conditions" "Unfolding.make_conditions" sMkc f_mkc)
    (d_bes : Df K "beside_all" "Unfolding.beside_all" sBes f_bes)
    (d_ned : Df K "needed_to_make" "Unfolding.needed_to_make" sNed f_ned)
    (d_mrk : Df K "marking_behind" "Unfolding.marking_behind" sMrk f_mrk)
    (d_new : Df K "is_nothing_new" "Unfolding.is_nothing_new" sNew f_new)
    (d_cho : Df K "choices" "Unfolding.choices" sCho f_cho)
    (d_pos : Df K "possible_with" "Unfolding.possible_with" sPos f_pos)
    (d_add : Df K "add_event" "Unfolding.add_event" sAdd f_add)
    (d_uni : Df K "__init__" "Unfolding.__init__" sUni f_uni)
    (d_unf : Df K "unfold" "unfold" sUnf f_unf)
    (d_tev : Df K "tell_events" "Line.tell_events" sTev f_tev)
    (d_tcd : Df K "tell_conditions" "Line.tell_conditions" sTcd f_tcd)
    (d_one : Df K "tell_event" "Line.tell_event" sOne f_one)
    (d_beg : Df K "begin" "Line.begin" sBeg f_beg)
    (d_lin : Df K "__init__" "Line.__init__" sLin f_lin)
    (d_uby : Df K "used_by" "Unfolding.used_by" sUby f_uby)
    (d_cls : Df K "is_clash_within" "Unfolding.is_clash_within" sCls f_cls)
    (d_can : Df K "can_be_at_once" "Unfolding.can_be_at_once" sCan f_can)
    (d_rws : Df K "rows_that_can_have_happened" "rows_that_can_have_happened" sRws f_rws)
    (d_fnd : Df K "find_ways" "find_ways" sFnd f_fnd)
    (d_tw2 : Df K "tell_two" "Line.tell_two" sTwo2 f_tw2)
    (d_the : Df K "tell_there" "Line.tell_there" sThe f_the)
    (d_knw : Df K "known_ways" "Line.known_ways" sKnw f_knw)
    (d_rch : Df K "tell_reach" "Line.tell_reach" sRch f_rch)
    (d_way : Df K "tell_way" "Line.tell_way" sWay f_way)
    (d_nxt : Df K "answer_next" "answer_next" sNxt f_nxt)
    (d_ans : Df K "answers" "answers" sAns f_ans)
    (c_R : Cls K R)
    (m_R : PySem.W.makesIn K R = true)
    (k_R : PySem.W.keepIn K (.ref R) = true)
    (n_R_numbers : PySem.W.findIn K (.ref R) "numbers" = some none)
    (n_R_position : PySem.W.findIn K (.ref R) "position" = some none)
    (c_T : Cls K T)
    (m_T : PySem.W.makesIn K T = true)
    (k_T : PySem.W.keepIn K (.ref T) = true)
    (n_T_takes : PySem.W.findIn K (.ref T) "takes" = some none)
    (n_T_puts : PySem.W.findIn K (.ref T) "puts" = some none)
    (c_N : Cls K N)
    (m_N : PySem.W.makesIn K N = true)
    (k_N : PySem.W.keepIn K (.ref N) = true)
    (n_N_places : PySem.W.findIn K (.ref N) "places" = some none)
    (n_N_transitions : PySem.W.findIn K (.ref N) "transitions" = some none)
    (n_N_marking : PySem.W.findIn K (.ref N) "marking" = some none)
    (c_C : Cls K C)
    (m_C : PySem.W.makesIn K C = true)
    (k_C : PySem.W.keepIn K (.ref C) = true)
    (n_C_place : PySem.W.findIn K (.ref C) "place" = some none)
    (n_C_maker : PySem.W.findIn K (.ref C) "maker" = some none)
    (c_E : Cls K E)
    (m_E : PySem.W.makesIn K E = true)
    (k_E : PySem.W.keepIn K (.ref E) = true)
    (n_E_transition : PySem.W.findIn K (.ref E) "transition" = some none)
    (n_E_used : PySem.W.findIn K (.ref E) "used" = some none)
    (n_E_made : PySem.W.findIn K (.ref E) "made" = some none)
    (n_E_needs : PySem.W.findIn K (.ref E) "needs" = some none)
    (n_E_marking : PySem.W.findIn K (.ref E) "marking" = some none)
    (n_E_is_cut_off : PySem.W.findIn K (.ref E) "is_cut_off" = some none)
    (c_U : Cls K U)
    (m_U : PySem.W.makesIn K U = true)
    (k_U : PySem.W.keepIn K (.ref U) = true)
    (n_U_net : PySem.W.findIn K (.ref U) "net" = some none)
    (n_U_events : PySem.W.findIn K (.ref U) "events" = some none)
    (n_U_conditions : PySem.W.findIn K (.ref U) "conditions" = some none)
    (n_U_beside : PySem.W.findIn K (.ref U) "beside" = some none)
    (n_U_usable : PySem.W.findIn K (.ref U) "usable" = some none)
    (n_U_first_conditions : PySem.W.findIn K (.ref U) "first_conditions" = some none)
    (c_L : Cls K L)
    (m_L : PySem.W.makesIn K L = true)
    (k_L : PySem.W.keepIn K (.ref L) = true)
    (n_L_unfolding : PySem.W.findIn K (.ref L) "unfolding" = some none)
    (n_L_ways : PySem.W.findIn K (.ref L) "ways" = some none)
    (v_MOST_TRANSITIONS : PySem.W.nsIn K mainGlobals "MOST_TRANSITIONS" = some (some (.int 8 t_MOST_TRANSITIONS)))
    (v_MOST_MARKINGS : PySem.W.nsIn K mainGlobals "MOST_MARKINGS" = some (some (.int 128 t_MOST_MARKINGS)))
    (v_FROM_THE_BEGINNING : PySem.W.nsIn K mainGlobals "FROM_THE_BEGINNING" = some (some (.int (-1) t_FROM_THE_BEGINNING)))
    (v_MOST_EVENTS : PySem.W.nsIn K mainGlobals "MOST_EVENTS" = some (some (.int 40 t_MOST_EVENTS)))
    (v_NOT_THERE : PySem.W.nsIn K mainGlobals "NOT_THERE" = some (some (.int (-2) t_NOT_THERE)))
    (v_MOST_PLACES : PySem.W.nsIn K mainGlobals "MOST_PLACES" = some (some (.int 9 t_MOST_PLACES)))
    (v_NOT_ALLOWED : PySem.W.nsIn K mainGlobals "NOT_ALLOWED" = some (some (.int (-1) t_NOT_ALLOWED)))
    (v_NOT_TOLD_SO : PySem.W.nsIn K mainGlobals "NOT_TOLD_SO" = some (some (.int (-3) t_NOT_TOLD_SO)))
    (v_OUT_OF_BOUNDS : PySem.W.nsIn K mainGlobals "OUT_OF_BOUNDS" = some (some (.int (-4) t_OUT_OF_BOUNDS)))
    (v_TOO_MANY_EVENTS : PySem.W.nsIn K mainGlobals "TOO_MANY_EVENTS" = some (some (.int (-5) t_TOO_MANY_EVENTS)))
    (v_THE_SAME : PySem.W.nsIn K mainGlobals "THE_SAME" = some (some (.int 0 t_THE_SAME)))
    (v_SECOND_NEEDS_FIRST : PySem.W.nsIn K mainGlobals "SECOND_NEEDS_FIRST" = some (some (.int 1 t_SECOND_NEEDS_FIRST)))
    (v_FIRST_NEEDS_SECOND : PySem.W.nsIn K mainGlobals "FIRST_NEEDS_SECOND" = some (some (.int 2 t_FIRST_NEEDS_SECOND)))
    (v_CLASH : PySem.W.nsIn K mainGlobals "CLASH" = some (some (.int 3 t_CLASH)))
    (v_SIDE_BY_SIDE : PySem.W.nsIn K mainGlobals "SIDE_BY_SIDE" = some (some (.int 4 t_SIDE_BY_SIDE)))
    (v_BEGIN : PySem.W.nsIn K mainGlobals "BEGIN" = some (some (.int 1 t_BEGIN)))
    (v_EVENTS : PySem.W.nsIn K mainGlobals "EVENTS" = some (some (.int 2 t_EVENTS)))
    (v_CONDITIONS : PySem.W.nsIn K mainGlobals "CONDITIONS" = some (some (.int 3 t_CONDITIONS)))
    (v_EVENT : PySem.W.nsIn K mainGlobals "EVENT" = some (some (.int 4 t_EVENT)))
    (v_TWO : PySem.W.nsIn K mainGlobals "TWO" = some (some (.int 5 t_TWO)))
    (v_THERE : PySem.W.nsIn K mainGlobals "THERE" = some (some (.int 6 t_THERE)))
    (v_REACH : PySem.W.nsIn K mainGlobals "REACH" = some (some (.int 7 t_REACH)))
    (v_WAY : PySem.W.nsIn K mainGlobals "WAY" = some (some (.int 8 t_WAY)))
    (b_all : PySem.W.nsIn K mainGlobals "all" = some none)
    (b_any : PySem.W.nsIn K mainGlobals "any" = some none)
    (b_enumerate : PySem.W.nsIn K mainGlobals "enumerate" = some none)
    (b_len : PySem.W.nsIn K mainGlobals "len" = some none)
    (b_list : PySem.W.nsIn K mainGlobals "list" = some none)
    (b_max : PySem.W.nsIn K mainGlobals "max" = some none)
    (b_min : PySem.W.nsIn K mainGlobals "min" = some none)
    (b_range : PySem.W.nsIn K mainGlobals "range" = some none)
    (b_set : PySem.W.nsIn K mainGlobals "set" = some none)
    (b_sorted : PySem.W.nsIn K mainGlobals "sorted" = some none)
    (b_sum : PySem.W.nsIn K mainGlobals "sum" = some none)
    (b_tuple : PySem.W.nsIn K mainGlobals "tuple" = some none)
    (b_zip : PySem.W.nsIn K mainGlobals "zip" = some none)
    : ∃ fd : FuncData, (∀ (s : Shared) (us : List Value), us.length = (["calls"] : List Str).length → BindsTo s fd ⟨us, []⟩ ((["calls"] : List Str).zip us)) ∧ ∀ base : Heap, K.In base → base.Ns mainGlobals mg → FnOk P w K mg base CX0 9 fa fd ["calls"] (spAns K) := by
  have e := hfa.symm.trans (PySem.W.mg_of X G a_ans)
  cases e
  obtain ⟨fd_has, F_has⟩ := d_has
  obtain ⟨fd_cond, F_cond⟩ := d_cond
  obtain ⟨fd_net, F_net⟩ := d_net
  obtain ⟨fd_trans, F_trans⟩ := d_trans
  obtain ⟨fd_may, F_may⟩ := d_may
  obtain ⟨fd_unt, F_unt⟩ := d_unt
  obtain ⟨fd_two, F_two⟩ := d_two
  obtain ⟨fd_fire, F_fire⟩ := d_fire
  obtain ⟨fd_ris, F_ris⟩ := d_ris
  obtain ⟨fd_spl, F_spl⟩ := d_spl
  obtain ⟨fd_rdI, F_rdI⟩ := d_rdI
  obtain ⟨fd_rdM, F_rdM⟩ := d_rdM
  obtain ⟨fd_rdN, F_rdN⟩ := d_rdN
  obtain ⟨fd_rdR, F_rdR⟩ := d_rdR
  obtain ⟨fd_read, F_read⟩ := d_read
  obtain ⟨fd_alw, F_alw⟩ := d_alw
  obtain ⟨fd_bnd, F_bnd⟩ := d_bnd
  obtain ⟨fd_evI, F_evI⟩ := d_evI
  obtain ⟨fd_let, F_let⟩ := d_let
  obtain ⟨fd_bit, F_bit⟩ := d_bit
  obtain ⟨fd_mkc, F_mkc⟩ := d_mkc
  obtain ⟨fd_bes, F_bes⟩ := d_bes
  obtain ⟨fd_ned, F_ned⟩ := d_ned
  obtain ⟨fd_mrk, F_mrk⟩ := d_mrk
  obtain ⟨fd_new, F_new⟩ := d_new
  obtain ⟨fd_cho, F_cho⟩ := d_cho
  obtain ⟨fd_pos, F_pos⟩ := d_pos
  obtain ⟨fd_add, F_add⟩ := d_add
  obtain ⟨fd_uni, F_uni⟩ := d_uni
  obtain ⟨fd_unf, F_unf⟩ := d_unf
  obtain ⟨fd_tev, F_tev⟩ := d_tev
  obtain ⟨fd_tcd, F_tcd⟩ := d_tcd
  obtain ⟨fd_one, F_one⟩ := d_one
  obtain ⟨fd_beg, F_beg⟩ := d_beg
  obtain ⟨fd_lin, F_lin⟩ := d_lin
  obtain ⟨fd_uby, F_uby⟩ := d_uby
  obtain ⟨fd_cls, F_cls⟩ := d_cls
  obtain ⟨fd_can, F_can⟩ := d_can
  obtain ⟨fd_rws, F_rws⟩ := d_rws
  obtain ⟨fd_fnd, F_fnd⟩ := d_fnd
  obtain ⟨fd_tw2, F_tw2⟩ := d_tw2
  obtain ⟨fd_the, F_the⟩ := d_the
  obtain ⟨fd_knw, F_knw⟩ := d_knw
  obtain ⟨fd_rch, F_rch⟩ := d_rch
  obtain ⟨fd_way, F_way⟩ := d_way
  obtain ⟨fd_nxt, F_nxt⟩ := d_nxt
  obtain ⟨fd_ans, F_ans⟩ := d_ans
  have B_has : Binds K fd_has ["bits", "number"] [] := F_has.binds (ps := ["bits", "number"]) fun _ _ _ _ _ _ us hl => match us, hl with | [_, _], _ => rfl
  have B_cond : Binds K fd_cond ["self", "place", "maker"] [] := F_cond.binds (ps := ["self", "place", "maker"]) fun _ _ _ _ _ _ us hl => match us, hl with | [_, _, _], _ => rfl
  have B_net : Binds K fd_net ["self", "places", "transitions", "marking"] [] := F_net.binds (ps := ["self", "places", "transitions", "marking"]) fun _ _ _ _ _ _ us hl => match us, hl with | [_, _, _, _], _ => rfl
  have B_trans : Binds K fd_trans ["self", "takes", "puts"] [] := F_trans.binds (ps := ["self", "takes", "puts"]) fun _ _ _ _ _ _ us hl => match us, hl with | [_, _, _], _ => rfl
  have B_may : Binds K fd_may ["self", "marking"] [] := F_may.binds (ps := ["self", "marking"]) fun _ _ _ _ _ _ us hl => match us, hl with | [_, _], _ => rfl
  have B_unt : Binds K fd_unt ["self", "marking"] [] := F_unt.binds (ps := ["self", "marking"]) fun _ _ _ _ _ _ us hl => match us, hl with | [_, _], _ => rfl
  have B_two : Binds K fd_two ["self", "marking"] [] := F_two.binds (ps := ["self", "marking"]) fun _ _ _ _ _ _ us hl => match us, hl with | [_, _], _ => rfl
  have B_fire : Binds K fd_fire ["self", "marking"] [] := F_fire.binds (ps := ["self", "marking"]) fun _ _ _ _ _ _ us hl => match us, hl with | [_, _], _ => rfl
  have B_ris : Binds K fd_ris ["numbers", "bound"] [] := F_ris.binds (ps := ["numbers", "bound"]) fun _ _ _ _ _ _ us hl => match us, hl with | [_, _], _ => rfl
  have B_spl : Binds K fd_spl ["numbers"] [] := F_spl.binds (ps := ["numbers"]) fun _ _ _ _ _ _ us hl => match us, hl with | [_], _ => rfl
  have B_rdI : Binds K fd_rdI ["self", "numbers"] [] := F_rdI.binds (ps := ["self", "numbers"]) fun _ _ _ _ _ _ us hl => match us, hl with | [_, _], _ => rfl
  have B_rdM : Binds K fd_rdM ["self"] [] := F_rdM.binds (ps := ["self"]) fun _ _ _ _ _ _ us hl => match us, hl with | [_], _ => rfl
  have B_rdN : Binds K fd_rdN ["self"] [] := F_rdN.binds (ps := ["self"]) fun _ _ _ _ _ _ us hl => match us, hl with | [_], _ => rfl
  have B_rdR : Binds K fd_rdR ["self"] [] := F_rdR.binds (ps := ["self"]) fun _ _ _ _ _ _ us hl => match us, hl with | [_], _ => rfl
  have B_read : Binds K fd_read ["numbers", "places"] [] := F_read.binds (ps := ["numbers", "places"]) fun _ _ _ _ _ _ us hl => match us, hl with | [_, _], _ => rfl
  have B_alw : Binds K fd_alw ["transitions"] [] := F_alw.binds (ps := ["transitions"]) fun _ _ _ _ _ _ us hl => match us, hl with | [_], _ => rfl
  have B_bnd : Binds K fd_bnd ["net"] [] := F_bnd.binds (ps := ["net"]) fun _ _ _ _ _ _ us hl => match us, hl with | [_], _ => rfl
  have B_evI : Binds K fd_evI ["self", "transition", "used", "made", "needs"] [] := F_evI.binds (ps := ["self", "transition", "used", "made", "needs"]) fun _ _ _ _ _ _ us hl => match us, hl with | [_, _, _, _, _], _ => rfl
  have B_let : Binds K fd_let ["self", "conditions"] [] := F_let.binds (ps := ["self", "conditions"]) fun _ _ _ _ _ _ us hl => match us, hl with | [_, _], _ => rfl
  have B_bit : Binds K fd_bit ["conditions"] [] := F_bit.binds (ps := ["conditions"]) fun _ _ _ _ _ _ us hl => match us, hl with | [_], _ => rfl
  have B_mkc : Binds K fd_mkc ["self", "places", "maker", "common"] [] := F_mkc.binds (ps := ["self", "places", "maker", "common"]) fun _ _ _ _ _ _ us hl => match us, hl with | [_, _, _, _], _ => rfl
  have B_bes : Binds K fd_bes ["self", "conditions"] [] := F_bes.binds (ps := ["self", "conditions"]) fun _ _ _ _ _ _ us hl => match us, hl with | [_, _], _ => rfl
  have B_ned : Binds K fd_ned ["self", "conditions"] [] := F_ned.binds (ps := ["self", "conditions"]) fun _ _ _ _ _ _ us hl => match us, hl with | [_, _], _ => rfl
  have B_mrk : Binds K fd_mrk ["self", "events"] [] := F_mrk.binds (ps := ["self", "events"]) fun _ _ _ _ _ _ us hl => match us, hl with | [_, _], _ => rfl
  have B_new : Binds K fd_new ["self", "event"] [] := F_new.binds (ps := ["self", "event"]) fun _ _ _ _ _ _ us hl => match us, hl with | [_, _], _ => rfl
  have B_cho : Binds K fd_cho ["self", "places", "near"] [] := F_cho.binds (ps := ["self", "places", "near"]) fun _ _ _ _ _ _ us hl => match us, hl with | [_, _, _], _ => rfl
  have B_pos : Binds K fd_pos ["self", "made"] [] := F_pos.binds (ps := ["self", "made"]) fun _ _ _ _ _ _ us hl => match us, hl with | [_, _], _ => rfl
  have B_add : Binds K fd_add ["self", "transition", "used"] [] := F_add.binds (ps := ["self", "transition", "used"]) fun _ _ _ _ _ _ us hl => match us, hl with | [_, _, _], _ => rfl
  have B_uni : Binds K fd_uni ["self", "net"] [] := F_uni.binds (ps := ["self", "net"]) fun _ _ _ _ _ _ us hl => match us, hl with | [_, _], _ => rfl
  have B_unf : Binds K fd_unf ["net"] [] := F_unf.binds (ps := ["net"]) fun _ _ _ _ _ _ us hl => match us, hl with | [_], _ => rfl
  have B_tev : Binds K fd_tev ["self"] [] := F_tev.binds (ps := ["self"]) fun _ _ _ _ _ _ us hl => match us, hl with | [_], _ => rfl
  have B_tcd : Binds K fd_tcd ["self"] [] := F_tcd.binds (ps := ["self"]) fun _ _ _ _ _ _ us hl => match us, hl with | [_], _ => rfl
  have B_one : Binds K fd_one ["self", "number"] [] := F_one.binds (ps := ["self", "number"]) fun _ _ _ _ _ _ us hl => match us, hl with | [_, _], _ => rfl
  have B_beg : Binds K fd_beg ["self", "places", "transition_numbers", "marking"] [] := F_beg.binds (ps := ["self", "places", "transition_numbers", "marking"]) fun _ _ _ _ _ _ us hl => match us, hl with | [_, _, _, _], _ => rfl
  have B_lin : Binds K fd_lin ["self"] [] := F_lin.binds (ps := ["self"]) fun _ _ _ _ _ _ us hl => match us, hl with | [_], _ => rfl
  have B_uby : Binds K fd_uby ["self", "events"] [] := F_uby.binds (ps := ["self", "events"]) fun _ _ _ _ _ _ us hl => match us, hl with | [_, _], _ => rfl
  have B_cls : Binds K fd_cls ["self", "events"] [] := F_cls.binds (ps := ["self", "events"]) fun _ _ _ _ _ _ us hl => match us, hl with | [_, _], _ => rfl
  have B_can : Binds K fd_can ["self", "conditions"] [] := F_can.binds (ps := ["self", "conditions"]) fun _ _ _ _ _ _ us hl => match us, hl with | [_, _], _ => rfl
  have B_rws : Binds K fd_rws ["unfolding"] [] := F_rws.binds (ps := ["unfolding"]) fun _ _ _ _ _ _ us hl => match us, hl with | [_], _ => rfl
  have B_fnd : Binds K fd_fnd ["unfolding"] [] := F_fnd.binds (ps := ["unfolding"]) fun _ _ _ _ _ _ us hl => match us, hl with | [_], _ => rfl
  have B_tw2 : Binds K fd_tw2 ["self", "first", "second"] [] := F_tw2.binds (ps := ["self", "first", "second"]) fun _ _ _ _ _ _ us hl => match us, hl with | [_, _, _], _ => rfl
  have B_the : Binds K fd_the ["self", "conditions"] [] := F_the.binds (ps := ["self", "conditions"]) fun _ _ _ _ _ _ us hl => match us, hl with | [_, _], _ => rfl
  have B_knw : Binds K fd_knw ["self"] [] := F_knw.binds (ps := ["self"]) fun _ _ _ _ _ _ us hl => match us, hl with | [_], _ => rfl
  have B_rch : Binds K fd_rch ["self"] [] := F_rch.binds (ps := ["self"]) fun _ _ _ _ _ _ us hl => match us, hl with | [_], _ => rfl
  have B_way : Binds K fd_way ["self", "places"] [] := F_way.binds (ps := ["self", "places"]) fun _ _ _ _ _ _ us hl => match us, hl with | [_, _], _ => rfl
  have B_nxt : Binds K fd_nxt ["line", "reader"] [] := F_nxt.binds (ps := ["line", "reader"]) fun _ _ _ _ _ _ us hl => match us, hl with | [_, _], _ => rfl
  have B_ans : Binds K fd_ans ["calls"] [] := F_ans.binds (ps := ["calls"]) fun _ _ _ _ _ _ us hl => match us, hl with | [_], _ => rfl
  have T_R : ClsT K mg "RowReader" R rdN := ⟨c_R, PySem.W.mg_of X G a_R, no_cons n_R_numbers (no_cons n_R_position no_nil)⟩
  have T_T : ClsT K mg "Transition" T ["takes", "puts"] := ⟨c_T, PySem.W.mg_of X G a_T, no_cons n_T_takes (no_cons n_T_puts no_nil)⟩
  have T_N : ClsT K mg "Net" N ["places", "transitions", "marking"] := ⟨c_N, PySem.W.mg_of X G a_N, no_cons n_N_places (no_cons n_N_transitions (no_cons n_N_marking no_nil))⟩
  have T_C : ClsT K mg "Condition" C ["place", "maker"] := ⟨c_C, PySem.W.mg_of X G a_C, no_cons n_C_place (no_cons n_C_maker no_nil)⟩
  have T_E : ClsT K mg "Event" E evN := ⟨c_E, PySem.W.mg_of X G a_E, no_cons n_E_transition (no_cons n_E_used (no_cons n_E_made (no_cons n_E_needs (no_cons n_E_marking (no_cons n_E_is_cut_off no_nil)))))⟩
  have T_U : ClsT K mg "Unfolding" U uN := ⟨c_U, PySem.W.mg_of X G a_U, no_cons n_U_net (no_cons n_U_events (no_cons n_U_conditions (no_cons n_U_beside (no_cons n_U_usable (no_cons n_U_first_conditions no_nil)))))⟩
  have T_L : ClsT K mg "Line" L lN := ⟨c_L, PySem.W.mg_of X G a_L, no_cons n_L_unfolding (no_cons n_L_ways no_nil)⟩
  have g_has : mg "has_bit" = some (.ref f_has) := PySem.W.mg_of X G a_has
  have g_ris : mg "is_rising_below" = some (.ref f_ris) := PySem.W.mg_of X G a_ris
  have g_spl : mg "split_rows" = some (.ref f_spl) := PySem.W.mg_of X G a_spl
  have g_read : mg "read_transitions" = some (.ref f_read) := PySem.W.mg_of X G a_read
  have g_alw : mg "are_transitions_allowed" = some (.ref f_alw) := PySem.W.mg_of X G a_alw
  have g_bnd : mg "keeps_to_bounds" = some (.ref f_bnd) := PySem.W.mg_of X G a_bnd
  have g_bit : mg "bits_of" = some (.ref f_bit) := PySem.W.mg_of X G a_bit
  have g_unf : mg "unfold" = some (.ref f_unf) := PySem.W.mg_of X G a_unf
  have g_rws : mg "rows_that_can_have_happened" = some (.ref f_rws) := PySem.W.mg_of X G a_rws
  have g_fnd : mg "find_ways" = some (.ref f_fnd) := PySem.W.mg_of X G a_fnd
  have g_nxt : mg "answer_next" = some (.ref f_nxt) := PySem.W.mg_of X G a_nxt
  have g_MOST_TRANSITIONS : mg "MOST_TRANSITIONS" = some (.int 8 t_MOST_TRANSITIONS) := PySem.W.mg_of X G v_MOST_TRANSITIONS
  have g_MOST_MARKINGS : mg "MOST_MARKINGS" = some (.int 128 t_MOST_MARKINGS) := PySem.W.mg_of X G v_MOST_MARKINGS
  have g_FROM_THE_BEGINNING : mg "FROM_THE_BEGINNING" = some (.int (-1) t_FROM_THE_BEGINNING) := PySem.W.mg_of X G v_FROM_THE_BEGINNING
  have g_MOST_EVENTS : mg "MOST_EVENTS" = some (.int 40 t_MOST_EVENTS) := PySem.W.mg_of X G v_MOST_EVENTS
  have g_NOT_THERE : mg "NOT_THERE" = some (.int (-2) t_NOT_THERE) := PySem.W.mg_of X G v_NOT_THERE
  have g_MOST_PLACES : mg "MOST_PLACES" = some (.int 9 t_MOST_PLACES) := PySem.W.mg_of X G v_MOST_PLACES
  have g_NOT_ALLOWED : mg "NOT_ALLOWED" = some (.int (-1) t_NOT_ALLOWED) := PySem.W.mg_of X G v_NOT_ALLOWED
  have g_NOT_TOLD_SO : mg "NOT_TOLD_SO" = some (.int (-3) t_NOT_TOLD_SO) := PySem.W.mg_of X G v_NOT_TOLD_SO
  have g_OUT_OF_BOUNDS : mg "OUT_OF_BOUNDS" = some (.int (-4) t_OUT_OF_BOUNDS) := PySem.W.mg_of X G v_OUT_OF_BOUNDS
  have g_TOO_MANY_EVENTS : mg "TOO_MANY_EVENTS" = some (.int (-5) t_TOO_MANY_EVENTS) := PySem.W.mg_of X G v_TOO_MANY_EVENTS
  have g_THE_SAME : mg "THE_SAME" = some (.int 0 t_THE_SAME) := PySem.W.mg_of X G v_THE_SAME
  have g_SECOND_NEEDS_FIRST : mg "SECOND_NEEDS_FIRST" = some (.int 1 t_SECOND_NEEDS_FIRST) := PySem.W.mg_of X G v_SECOND_NEEDS_FIRST
  have g_FIRST_NEEDS_SECOND : mg "FIRST_NEEDS_SECOND" = some (.int 2 t_FIRST_NEEDS_SECOND) := PySem.W.mg_of X G v_FIRST_NEEDS_SECOND
  have g_CLASH : mg "CLASH" = some (.int 3 t_CLASH) := PySem.W.mg_of X G v_CLASH
  have g_SIDE_BY_SIDE : mg "SIDE_BY_SIDE" = some (.int 4 t_SIDE_BY_SIDE) := PySem.W.mg_of X G v_SIDE_BY_SIDE
  have g_BEGIN : mg "BEGIN" = some (.int 1 t_BEGIN) := PySem.W.mg_of X G v_BEGIN
  have g_EVENTS : mg "EVENTS" = some (.int 2 t_EVENTS) := PySem.W.mg_of X G v_EVENTS
  have g_CONDITIONS : mg "CONDITIONS" = some (.int 3 t_CONDITIONS) := PySem.W.mg_of X G v_CONDITIONS
  have g_EVENT : mg "EVENT" = some (.int 4 t_EVENT) := PySem.W.mg_of X G v_EVENT
  have g_TWO : mg "TWO" = some (.int 5 t_TWO) := PySem.W.mg_of X G v_TWO
  have g_THERE : mg "THERE" = some (.int 6 t_THERE) := PySem.W.mg_of X G v_THERE
  have g_REACH : mg "REACH" = some (.int 7 t_REACH) := PySem.W.mg_of X G v_REACH
  have g_WAY : mg "WAY" = some (.int 8 t_WAY) := PySem.W.mg_of X G v_WAY
  have g_all : mg "all" = none := PySem.W.mg_none_of X G b_all
  have g_any : mg "any" = none := PySem.W.mg_none_of X G b_any
  have g_enumerate : mg "enumerate" = none := PySem.W.mg_none_of X G b_enumerate
  have g_len : mg "len" = none := PySem.W.mg_none_of X G b_len
  have g_list : mg "list" = none := PySem.W.mg_none_of X G b_list
  have g_max : mg "max" = none := PySem.W.mg_none_of X G b_max
  have g_min : mg "min" = none := PySem.W.mg_none_of X G b_min
  have g_range : mg "range" = none := PySem.W.mg_none_of X G b_range
  have g_set : mg "set" = none := PySem.W.mg_none_of X G b_set
  have g_sorted : mg "sorted" = none := PySem.W.mg_none_of X G b_sorted
  have g_sum : mg "sum" = none := PySem.W.mg_none_of X G b_sum
  have g_tuple : mg "tuple" = none := PySem.W.mg_none_of X G b_tuple
  have g_zip : mg "zip" = none := PySem.W.mg_none_of X G b_zip
  obtain ⟨oc, od, kV, doc, pm, an, cdv, ct, osl, rfl, lk, hcd⟩ := F_ans.ex
  refine ⟨PySem.W.fnOf "answers" "answers" (defArgs sAns) (defBody sAns) (defScope sAns) .none kV doc pm an cdv ct, fun s us hu => match us, hu with | [_], _ => .of_eq rfl, fun base _ _ => ?_⟩
  have G_has := ok_has (P := P) (w := w) (mg := mg) (base := base) F_has
  have G_cond := ok_cond (P := P) (w := w) (mg := mg) (base := base) F_cond T_C
  have G_net := ok_net (P := P) (w := w) (mg := mg) (base := base) F_net T_N
  have G_trans := ok_trans (P := P) (w := w) (mg := mg) (base := base) F_trans T_T
  have G_may := ok_may (P := P) (w := w) (mg := mg) (base := base) F_may T_T g_all
  have G_unt := ok_unt (P := P) (w := w) (mg := mg) (base := base) F_unt T_T
  have G_two := ok_two (P := P) (w := w) (mg := mg) (base := base) F_two T_T g_any G_unt B_unt ⟨a_unt, i_unt, F_unt.kp⟩
  have G_fire := ok_fire (P := P) (w := w) (mg := mg) (base := base) F_fire T_T g_tuple g_sorted G_unt B_unt ⟨a_unt, i_unt, F_unt.kp⟩
  have G_ris := ok_ris (P := P) (w := w) (mg := mg) (base := base) F_ris g_len g_range
  have G_spl := ok_spl (P := P) (w := w) (mg := mg) (base := base) F_spl g_len
  have G_rdI := ok_rdI (P := P) (w := w) (mg := mg) (base := base) F_rdI T_R
  have G_rdM := ok_rdM (P := P) (w := w) (mg := mg) (base := base) F_rdM T_R g_len
  have G_rdN := ok_rdN (P := P) (w := w) (mg := mg) (base := base) F_rdN T_R
  have G_rdR := ok_rdR (P := P) (w := w) (mg := mg) (base := base) F_rdR T_R G_rdN B_rdN ⟨a_rdN, i_rdN, F_rdN.kp⟩
  have G_read := ok_read (P := P) (w := w) (mg := mg) (base := base) F_read T_T g_len g_all g_range G_spl B_spl g_spl F_spl.kp G_ris B_ris g_ris F_ris.kp G_trans B_trans ⟨m_T, a_trans, i_trans, k_T⟩
  have G_alw := ok_alw (P := P) (w := w) (mg := mg) (base := base) F_alw T_T g_len g_all g_MOST_TRANSITIONS
  have G_bnd := ok_bnd (P := P) (w := w) (mg := mg) (base := base) F_bnd T_N T_T g_len g_MOST_MARKINGS G_may B_may ⟨a_may, i_may, F_may.kp⟩ G_two B_two ⟨a_two, i_two, F_two.kp⟩ G_fire B_fire ⟨a_fire, i_fire, F_fire.kp⟩
  have G_evI := ok_evI (P := P) (w := w) (mg := mg) (base := base) F_evI T_E
  have G_let := ok_let (P := P) (w := w) (mg := mg) (base := base) F_let T_U T_C
  have G_bit := ok_bit (P := P) (w := w) (mg := mg) (base := base) F_bit g_sum
  have G_mkc := ok_mkc (P := P) (w := w) (mg := mg) (base := base) F_mkc T_U T_C g_len g_list g_range g_zip G_bit B_bit g_bit F_bit.kp G_has B_has g_has F_has.kp G_cond B_cond ⟨m_C, a_cond, i_cond, k_C⟩
  have G_bes := ok_bes (P := P) (w := w) (mg := mg) (base := base) F_bes T_U
  have G_ned := ok_ned (P := P) (w := w) (mg := mg) (base := base) F_ned T_U T_C T_E g_sorted g_set g_FROM_THE_BEGINNING
  have G_mrk := ok_mrk (P := P) (w := w) (mg := mg) (base := base) F_mrk T_U T_C T_E g_sorted g_tuple
  have G_new := ok_new (P := P) (w := w) (mg := mg) (base := base) F_new T_U T_N T_E g_len g_any
  have G_cho := ok_cho (P := P) (w := w) (mg := mg) (base := base) F_cho T_U G_has B_has g_has F_has.kp
  have G_pos := ok_pos (P := P) (w := w) (mg := mg) (base := base) F_pos T_U T_N T_T g_len g_any g_enumerate G_cho B_cho ⟨a_cho, i_cho, F_cho.kp⟩ G_ned B_ned ⟨a_ned, i_ned, F_ned.kp⟩
  have G_add := ok_add (P := P) (w := w) (mg := mg) (base := base) (c := ⟨R, T, N, C, E, U, L⟩) F_add T_U T_N T_T T_E g_len G_ned B_ned ⟨a_ned, i_ned, F_ned.kp⟩ G_bes B_bes ⟨a_bes, i_bes, F_bes.kp⟩ G_mkc B_mkc ⟨a_mkc, i_mkc, F_mkc.kp⟩ G_evI B_evI ⟨m_E, a_evI, i_evI, k_E⟩ G_mrk B_mrk ⟨a_mrk, i_mrk, F_mrk.kp⟩ G_new B_new ⟨a_new, i_new, F_new.kp⟩ G_let B_let ⟨a_let, i_let, F_let.kp⟩
  have G_uni := ok_uni (P := P) (w := w) (mg := mg) (base := base) (c := ⟨R, T, N, C, E, U, L⟩) F_uni T_U T_N g_range g_FROM_THE_BEGINNING G_mkc B_mkc ⟨a_mkc, i_mkc, F_mkc.kp⟩ G_let B_let ⟨a_let, i_let, F_let.kp⟩
  have G_unf := ok_unf (P := P) (w := w) (mg := mg) (base := base) (c := ⟨R, T, N, C, E, U, L⟩) F_unf T_U T_E g_len g_min g_MOST_EVENTS G_uni B_uni ⟨m_U, a_uni, i_uni, k_U⟩ G_pos B_pos ⟨a_pos, i_pos, F_pos.kp⟩ G_add B_add ⟨a_add, i_add, F_add.kp⟩
  have G_tev := ok_tev (P := P) (w := w) (mg := mg) (base := base) (c := ⟨R, T, N, C, E, U, L⟩) F_tev T_L T_U T_E g_len
  have G_tcd := ok_tcd (P := P) (w := w) (mg := mg) (base := base) (c := ⟨R, T, N, C, E, U, L⟩) F_tcd T_L T_U T_C g_len
  have G_one := ok_one (P := P) (w := w) (mg := mg) (base := base) (c := ⟨R, T, N, C, E, U, L⟩) F_one T_L T_U T_E g_len g_list g_NOT_THERE
  have G_beg := ok_beg (P := P) (w := w) (mg := mg) (base := base) (c := ⟨R, T, N, C, E, U, L⟩) F_beg T_L T_U T_E T_N g_len g_tuple g_MOST_PLACES g_NOT_ALLOWED g_NOT_TOLD_SO g_OUT_OF_BOUNDS g_TOO_MANY_EVENTS G_read B_read g_read F_read.kp G_ris B_ris g_ris F_ris.kp G_alw B_alw g_alw F_alw.kp G_net B_net ⟨m_N, a_net, i_net, k_N⟩ G_bnd B_bnd g_bnd F_bnd.kp G_unf B_unf g_unf F_unf.kp
  have G_lin := ok_lin (P := P) (w := w) (mg := mg) (base := base) (c := ⟨R, T, N, C, E, U, L⟩) F_lin T_L T_N G_net B_net ⟨m_N, a_net, i_net, k_N⟩ G_unf B_unf g_unf F_unf.kp
  have G_uby := ok_uby (P := P) (w := w) (mg := mg) (base := base) F_uby T_U T_E
  have G_cls := ok_cls (P := P) (w := w) (mg := mg) (base := base) F_cls T_U g_len g_set G_uby B_uby ⟨a_uby, i_uby, F_uby.kp⟩
  have G_can := ok_can (P := P) (w := w) (mg := mg) (base := base) (c := ⟨R, T, N, C, E, U, L⟩) F_can T_U g_len g_set G_ned B_ned ⟨a_ned, i_ned, F_ned.kp⟩ G_cls B_cls ⟨a_cls, i_cls, F_cls.kp⟩ G_uby B_uby ⟨a_uby, i_uby, F_uby.kp⟩
  have G_rws := ok_rws (P := P) (w := w) (mg := mg) (base := base) (c := ⟨R, T, N, C, E, U, L⟩) F_rws T_U T_E g_enumerate G_bit B_bit g_bit F_bit.kp
  have G_fnd := ok_fnd (P := P) (w := w) (mg := mg) (base := base) (c := ⟨R, T, N, C, E, U, L⟩) F_fnd T_U g_sorted g_len G_rws B_rws g_rws F_rws.kp G_mrk B_mrk ⟨a_mrk, i_mrk, F_mrk.kp⟩
  have G_tw2 := ok_tw2 (P := P) (w := w) (mg := mg) (base := base) (c := ⟨R, T, N, C, E, U, L⟩) F_tw2 T_L T_U T_E g_len g_max g_sorted g_set g_NOT_THERE g_THE_SAME g_SECOND_NEEDS_FIRST g_FIRST_NEEDS_SECOND g_CLASH g_SIDE_BY_SIDE G_cls B_cls ⟨a_cls, i_cls, F_cls.kp⟩
  have G_the := ok_the (P := P) (w := w) (mg := mg) (base := base) (c := ⟨R, T, N, C, E, U, L⟩) F_the T_L T_U g_len g_NOT_TOLD_SO G_ris B_ris g_ris F_ris.kp G_can B_can ⟨a_can, i_can, F_can.kp⟩
  have G_knw := ok_knw (P := P) (w := w) (mg := mg) (base := base) (c := ⟨R, T, N, C, E, U, L⟩) F_knw T_L G_fnd B_fnd g_fnd F_fnd.kp
  have G_rch := ok_rch (P := P) (w := w) (mg := mg) (base := base) (c := ⟨R, T, N, C, E, U, L⟩) F_rch T_L g_len g_sorted G_knw B_knw ⟨a_knw, i_knw, F_knw.kp⟩
  have G_way := ok_way (P := P) (w := w) (mg := mg) (base := base) (c := ⟨R, T, N, C, E, U, L⟩) F_way T_L T_U T_E T_N g_len g_tuple g_NOT_TOLD_SO g_NOT_THERE G_ris B_ris g_ris F_ris.kp G_knw B_knw ⟨a_knw, i_knw, F_knw.kp⟩
  have G_nxt := ok_nxt (P := P) (w := w) (mg := mg) (base := base) (c := ⟨R, T, N, C, E, U, L⟩) F_nxt T_L T_R g_BEGIN g_EVENTS g_CONDITIONS g_EVENT g_TWO g_THERE g_REACH g_WAY G_rdN B_rdN ⟨a_rdN, i_rdN, F_rdN.kp⟩ G_rdR B_rdR ⟨a_rdR, i_rdR, F_rdR.kp⟩ G_beg B_beg ⟨a_beg, i_beg, F_beg.kp⟩ G_tev B_tev ⟨a_tev, i_tev, F_tev.kp⟩ G_tcd B_tcd ⟨a_tcd, i_tcd, F_tcd.kp⟩ G_one B_one ⟨a_one, i_one, F_one.kp⟩ G_tw2 B_tw2 ⟨a_tw2, i_tw2, F_tw2.kp⟩ G_the B_the ⟨a_the, i_the, F_the.kp⟩ G_rch B_rch ⟨a_rch, i_rch, F_rch.kp⟩ G_way B_way ⟨a_way, i_way, F_way.kp⟩
  exact ok_ans (c := ⟨R, T, N, C, E, U, L⟩) F_ans T_L T_R g_len G_lin B_lin ⟨m_L, a_lin, i_lin, k_L⟩ G_rdI B_rdI ⟨m_R, a_rdI, i_rdI, k_R⟩ G_rdM B_rdM ⟨a_rdM, i_rdM, F_rdM.kp⟩ G_nxt B_nxt g_nxt F_nxt.kp
end NuP
end
/-! # NuHead -/
open PySem PySem.W PyProof.Rows
set_option maxRecDepth 100000 in
set_option maxHeartbeats 8000000 in
theorem PySem.Challenge.cw_netsunfolded_s01_answers_holds : PySem.Challenge.rw_netsunfolded_s01_answers.Holds := by
  w_on; k_headS; (case hw => exact ⟨[.list [.int 2]], by decide +kernel, by decide +kernel⟩)
  k_fillS
  refine L2.walk_specK (r := PySem.Challenge.rw_netsunfolded_s01_answers) (k := 9) (CX := L2.CX0) (ps := ["calls"]) (sp := NuP.spAns) (by decide +kernel) rfl rfl ⟨rfl, by decide, by decide⟩ (fun w h Y => PySem.W.kIn_of Y) ?F ?S (fun _ _ _ _ z => z)
  case F =>
    intro w mg fa h Y KX G hmg
    refine' NuP.all_mk KX G hmg ?a_R ?a_T ?a_N ?a_C ?a_E ?a_U ?a_L ?a_has ?a_cond ?i_cond ?a_net ?i_net ?a_trans ?i_trans ?a_may ?i_may ?a_unt ?i_unt ?a_two ?i_two ?a_fire ?i_fire ?a_ris ?a_spl ?a_rdI ?i_rdI ?a_rdM ?i_rdM ?a_rdN ?i_rdN ?a_rdR ?i_rdR ?a_read ?a_alw ?a_bnd ?a_evI ?i_evI ?a_let ?i_let ?a_bit ?a_mkc ?i_mkc ?a_bes ?i_bes ?a_ned ?i_ned ?a_mrk ?i_mrk ?a_new ?i_new ?a_cho ?i_cho ?a_pos ?i_pos ?a_add ?i_add ?a_uni ?i_uni ?a_unf ?a_tev ?i_tev ?a_tcd ?i_tcd ?a_one ?i_one ?a_beg ?i_beg ?a_lin ?i_lin ?a_uby ?i_uby ?a_cls ?i_cls ?a_can ?i_can ?a_rws ?a_fnd ?a_tw2 ?i_tw2 ?a_the ?i_the ?a_knw ?i_knw ?a_rch ?i_rch ?a_way ?i_way ?a_nxt ?a_ans ?d_has ?d_cond ?d_net ?d_trans ?d_may ?d_unt ?d_two ?d_fire ?d_ris ?d_spl ?d_rdI ?d_rdM ?d_rdN ?d_rdR ?d_read ?d_alw ?d_bnd ?d_evI ?d_let ?d_bit ?d_mkc ?d_bes ?d_ned ?d_mrk ?d_new ?d_cho ?d_pos ?d_add ?d_uni ?d_unf ?d_tev ?d_tcd ?d_one ?d_beg ?d_lin ?d_uby ?d_cls ?d_can ?d_rws ?d_fnd ?d_tw2 ?d_the ?d_knw ?d_rch ?d_way ?d_nxt ?d_ans ?c_R ?m_R ?k_R ?n_R_numbers ?n_R_position ?c_T ?m_T ?k_T ?n_T_takes ?n_T_puts ?c_N ?m_N ?k_N ?n_N_places ?n_N_transitions ?n_N_marking ?c_C ?m_C ?k_C ?n_C_place ?n_C_maker ?c_E ?m_E ?k_E ?n_E_transition ?n_E_used ?n_E_made ?n_E_needs ?n_E_marking ?n_E_is_cut_off ?c_U ?m_U ?k_U ?n_U_net ?n_U_events ?n_U_conditions ?n_U_beside ?n_U_usable ?n_U_first_conditions ?c_L ?m_L ?k_L ?n_L_unfolding ?n_L_ways ?v_MOST_TRANSITIONS ?v_MOST_MARKINGS ?v_FROM_THE_BEGINNING ?v_MOST_EVENTS ?v_NOT_THERE ?v_MOST_PLACES ?v_NOT_ALLOWED ?v_NOT_TOLD_SO ?v_OUT_OF_BOUNDS ?v_TOO_MANY_EVENTS ?v_THE_SAME ?v_SECOND_NEEDS_FIRST ?v_FIRST_NEEDS_SECOND ?v_CLASH ?v_SIDE_BY_SIDE ?v_BEGIN ?v_EVENTS ?v_CONDITIONS ?v_EVENT ?v_TWO ?v_THERE ?v_REACH ?v_WAY ?b_all ?b_any ?b_enumerate ?b_len ?b_list ?b_max ?b_min ?b_range ?b_set ?b_sorted ?b_sum ?b_tuple ?b_zip
    (case a_R => k_is)
    (case a_T => k_is)
    (case a_N => k_is)
    (case a_C => k_is)
    (case a_E => k_is)
    (case a_U => k_is)
    (case a_L => k_is)
    (case a_has => k_is)
    (case a_cond => k_is)
    (case i_cond => k_is)
    (case a_net => k_is)
    (case i_net => k_is)
    (case a_trans => k_is)
    (case i_trans => k_is)
    (case a_may => k_is)
    (case i_may => k_is)
    (case a_unt => k_is)
    (case i_unt => k_is)
    (case a_two => k_is)
    (case i_two => k_is)
    (case a_fire => k_is)
    (case i_fire => k_is)
    (case a_ris => k_is)
    (case a_spl => k_is)
    (case a_rdI => k_is)
    (case i_rdI => k_is)
    (case a_rdM => k_is)
    (case i_rdM => k_is)
    (case a_rdN => k_is)
    (case i_rdN => k_is)
    (case a_rdR => k_is)
    (case i_rdR => k_is)
    (case a_read => k_is)
    (case a_alw => k_is)
    (case a_bnd => k_is)
    (case a_evI => k_is)
    (case i_evI => k_is)
    (case a_let => k_is)
    (case i_let => k_is)
    (case a_bit => k_is)
    (case a_mkc => k_is)
    (case i_mkc => k_is)
    (case a_bes => k_is)
    (case i_bes => k_is)
    (case a_ned => k_is)
    (case i_ned => k_is)
    (case a_mrk => k_is)
    (case i_mrk => k_is)
    (case a_new => k_is)
    (case i_new => k_is)
    (case a_cho => k_is)
    (case i_cho => k_is)
    (case a_pos => k_is)
    (case i_pos => k_is)
    (case a_add => k_is)
    (case i_add => k_is)
    (case a_uni => k_is)
    (case i_uni => k_is)
    (case a_unf => k_is)
    (case a_tev => k_is)
    (case i_tev => k_is)
    (case a_tcd => k_is)
    (case i_tcd => k_is)
    (case a_one => k_is)
    (case i_one => k_is)
    (case a_beg => k_is)
    (case i_beg => k_is)
    (case a_lin => k_is)
    (case i_lin => k_is)
    (case a_uby => k_is)
    (case i_uby => k_is)
    (case a_cls => k_is)
    (case i_cls => k_is)
    (case a_can => k_is)
    (case i_can => k_is)
    (case a_rws => k_is)
    (case a_fnd => k_is)
    (case a_tw2 => k_is)
    (case i_tw2 => k_is)
    (case a_the => k_is)
    (case i_the => k_is)
    (case a_knw => k_is)
    (case i_knw => k_is)
    (case a_rch => k_is)
    (case i_rch => k_is)
    (case a_way => k_is)
    (case i_way => k_is)
    (case a_nxt => k_is)
    (case a_ans => k_is)
    (case d_has => refine' NuP.df_mk ?l ?c ?k; (case l => k_is); (case c => k_is); (case k => k_is))
    (case d_cond => refine' NuP.df_mk ?l ?c ?k; (case l => k_is); (case c => k_is); (case k => k_is))
    (case d_net => refine' NuP.df_mk ?l ?c ?k; (case l => k_is); (case c => k_is); (case k => k_is))
    (case d_trans => refine' NuP.df_mk ?l ?c ?k; (case l => k_is); (case c => k_is); (case k => k_is))
    (case d_may => refine' NuP.df_mk ?l ?c ?k; (case l => k_is); (case c => k_is); (case k => k_is))
    (case d_unt => refine' NuP.df_mk ?l ?c ?k; (case l => k_is); (case c => k_is); (case k => k_is))
    (case d_two => refine' NuP.df_mk ?l ?c ?k; (case l => k_is); (case c => k_is); (case k => k_is))
    (case d_fire => refine' NuP.df_mk ?l ?c ?k; (case l => k_is); (case c => k_is); (case k => k_is))
    (case d_ris => refine' NuP.df_mk ?l ?c ?k; (case l => k_is); (case c => k_is); (case k => k_is))
    (case d_spl => refine' NuP.df_mk ?l ?c ?k; (case l => k_is); (case c => k_is); (case k => k_is))
    (case d_rdI => refine' NuP.df_mk ?l ?c ?k; (case l => k_is); (case c => k_is); (case k => k_is))
    (case d_rdM => refine' NuP.df_mk ?l ?c ?k; (case l => k_is); (case c => k_is); (case k => k_is))
    (case d_rdN => refine' NuP.df_mk ?l ?c ?k; (case l => k_is); (case c => k_is); (case k => k_is))
    (case d_rdR => refine' NuP.df_mk ?l ?c ?k; (case l => k_is); (case c => k_is); (case k => k_is))
    (case d_read => refine' NuP.df_mk ?l ?c ?k; (case l => k_is); (case c => k_is); (case k => k_is))
    (case d_alw => refine' NuP.df_mk ?l ?c ?k; (case l => k_is); (case c => k_is); (case k => k_is))
    (case d_bnd => refine' NuP.df_mk ?l ?c ?k; (case l => k_is); (case c => k_is); (case k => k_is))
    (case d_evI => refine' NuP.df_mk ?l ?c ?k; (case l => k_is); (case c => k_is); (case k => k_is))
    (case d_let => refine' NuP.df_mk ?l ?c ?k; (case l => k_is); (case c => k_is); (case k => k_is))
    (case d_bit => refine' NuP.df_mk ?l ?c ?k; (case l => k_is); (case c => k_is); (case k => k_is))
    (case d_mkc => refine' NuP.df_mk ?l ?c ?k; (case l => k_is); (case c => k_is); (case k => k_is))
    (case d_bes => refine' NuP.df_mk ?l ?c ?k; (case l => k_is); (case c => k_is); (case k => k_is))
    (case d_ned => refine' NuP.df_mk ?l ?c ?k; (case l => k_is); (case c => k_is); (case k => k_is))
    (case d_mrk => refine' NuP.df_mk ?l ?c ?k; (case l => k_is); (case c => k_is); (case k => k_is))
    (case d_new => refine' NuP.df_mk ?l ?c ?k; (case l => k_is); (case c => k_is); (case k => k_is))
    (case d_cho => refine' NuP.df_mk ?l ?c ?k; (case l => k_is); (case c => k_is); (case k => k_is))
    (case d_pos => refine' NuP.df_mk ?l ?c ?k; (case l => k_is); (case c => k_is); (case k => k_is))
    (case d_add => refine' NuP.df_mk ?l ?c ?k; (case l => k_is); (case c => k_is); (case k => k_is))
    (case d_uni => refine' NuP.df_mk ?l ?c ?k; (case l => k_is); (case c => k_is); (case k => k_is))
    (case d_unf => refine' NuP.df_mk ?l ?c ?k; (case l => k_is); (case c => k_is); (case k => k_is))
    (case d_tev => refine' NuP.df_mk ?l ?c ?k; (case l => k_is); (case c => k_is); (case k => k_is))
    (case d_tcd => refine' NuP.df_mk ?l ?c ?k; (case l => k_is); (case c => k_is); (case k => k_is))
    (case d_one => refine' NuP.df_mk ?l ?c ?k; (case l => k_is); (case c => k_is); (case k => k_is))
    (case d_beg => refine' NuP.df_mk ?l ?c ?k; (case l => k_is); (case c => k_is); (case k => k_is))
    (case d_lin => refine' NuP.df_mk ?l ?c ?k; (case l => k_is); (case c => k_is); (case k => k_is))
    (case d_uby => refine' NuP.df_mk ?l ?c ?k; (case l => k_is); (case c => k_is); (case k => k_is))
    (case d_cls => refine' NuP.df_mk ?l ?c ?k; (case l => k_is); (case c => k_is); (case k => k_is))
    (case d_can => refine' NuP.df_mk ?l ?c ?k; (case l => k_is); (case c => k_is); (case k => k_is))
    (case d_rws => refine' NuP.df_mk ?l ?c ?k; (case l => k_is); (case c => k_is); (case k => k_is))
    (case d_fnd => refine' NuP.df_mk ?l ?c ?k; (case l => k_is); (case c => k_is); (case k => k_is))
    (case d_tw2 => refine' NuP.df_mk ?l ?c ?k; (case l => k_is); (case c => k_is); (case k => k_is))
    (case d_the => refine' NuP.df_mk ?l ?c ?k; (case l => k_is); (case c => k_is); (case k => k_is))
    (case d_knw => refine' NuP.df_mk ?l ?c ?k; (case l => k_is); (case c => k_is); (case k => k_is))
    (case d_rch => refine' NuP.df_mk ?l ?c ?k; (case l => k_is); (case c => k_is); (case k => k_is))
    (case d_way => refine' NuP.df_mk ?l ?c ?k; (case l => k_is); (case c => k_is); (case k => k_is))
    (case d_nxt => refine' NuP.df_mk ?l ?c ?k; (case l => k_is); (case c => k_is); (case k => k_is))
    (case d_ans => refine' NuP.df_mk ?l ?c ?k; (case l => k_is); (case c => k_is); (case k => k_is))
    (case c_R => refine' L2.Cls.mk ?pg ?hd ?po ?sa; (case pg => k_is); (case hd => k_is); (case po => k_is); (case sa => k_is))
    (case m_R => k_is)
    (case k_R => k_is)
    (case n_R_numbers => k_is)
    (case n_R_position => k_is)
    (case c_T => refine' L2.Cls.mk ?pg ?hd ?po ?sa; (case pg => k_is); (case hd => k_is); (case po => k_is); (case sa => k_is))
    (case m_T => k_is)
    (case k_T => k_is)
    (case n_T_takes => k_is)
    (case n_T_puts => k_is)
    (case c_N => refine' L2.Cls.mk ?pg ?hd ?po ?sa; (case pg => k_is); (case hd => k_is); (case po => k_is); (case sa => k_is))
    (case m_N => k_is)
    (case k_N => k_is)
    (case n_N_places => k_is)
    (case n_N_transitions => k_is)
    (case n_N_marking => k_is)
    (case c_C => refine' L2.Cls.mk ?pg ?hd ?po ?sa; (case pg => k_is); (case hd => k_is); (case po => k_is); (case sa => k_is))
    (case m_C => k_is)
    (case k_C => k_is)
    (case n_C_place => k_is)
    (case n_C_maker => k_is)
    (case c_E => refine' L2.Cls.mk ?pg ?hd ?po ?sa; (case pg => k_is); (case hd => k_is); (case po => k_is); (case sa => k_is))
    (case m_E => k_is)
    (case k_E => k_is)
    (case n_E_transition => k_is)
    (case n_E_used => k_is)
    (case n_E_made => k_is)
    (case n_E_needs => k_is)
    (case n_E_marking => k_is)
    (case n_E_is_cut_off => k_is)
    (case c_U => refine' L2.Cls.mk ?pg ?hd ?po ?sa; (case pg => k_is); (case hd => k_is); (case po => k_is); (case sa => k_is))
    (case m_U => k_is)
    (case k_U => k_is)
    (case n_U_net => k_is)
    (case n_U_events => k_is)
    (case n_U_conditions => k_is)
    (case n_U_beside => k_is)
    (case n_U_usable => k_is)
    (case n_U_first_conditions => k_is)
    (case c_L => refine' L2.Cls.mk ?pg ?hd ?po ?sa; (case pg => k_is); (case hd => k_is); (case po => k_is); (case sa => k_is))
    (case m_L => k_is)
    (case k_L => k_is)
    (case n_L_unfolding => k_is)
    (case n_L_ways => k_is)
    (case v_MOST_TRANSITIONS => k_is)
    (case v_MOST_MARKINGS => k_is)
    (case v_FROM_THE_BEGINNING => k_is)
    (case v_MOST_EVENTS => k_is)
    (case v_NOT_THERE => k_is)
    (case v_MOST_PLACES => k_is)
    (case v_NOT_ALLOWED => k_is)
    (case v_NOT_TOLD_SO => k_is)
    (case v_OUT_OF_BOUNDS => k_is)
    (case v_TOO_MANY_EVENTS => k_is)
    (case v_THE_SAME => k_is)
    (case v_SECOND_NEEDS_FIRST => k_is)
    (case v_FIRST_NEEDS_SECOND => k_is)
    (case v_CLASH => k_is)
    (case v_SIDE_BY_SIDE => k_is)
    (case v_BEGIN => k_is)
    (case v_EVENTS => k_is)
    (case v_CONDITIONS => k_is)
    (case v_EVENT => k_is)
    (case v_TWO => k_is)
    (case v_THERE => k_is)
    (case v_REACH => k_is)
    (case v_WAY => k_is)
    (case b_all => k_is)
    (case b_any => k_is)
    (case b_enumerate => k_is)
    (case b_len => k_is)
    (case b_list => k_is)
    (case b_max => k_is)
    (case b_min => k_is)
    (case b_range => k_is)
    (case b_set => k_is)
    (case b_sorted => k_is)
    (case b_sum => k_is)
    (case b_tuple => k_is)
    (case b_zip => k_is)
  case S =>
    intro K H xs a hO hwi hask hx
    exact NuP.spec_ok K H xs a hO hwi hask hx
#print axioms PySem.Challenge.cw_netsunfolded_s01_answers_holds
