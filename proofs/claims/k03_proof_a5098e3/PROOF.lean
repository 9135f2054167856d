import PyProof.Rows.All
import Wide.All
import OpenK.AllK
import Wide.FinOn
import HandS.ForMost
import HandS.ForExc
import HandS.Flow
import HandS.IsInst
import HandS.Deep
import HandS.Lambda
import HandS.TupMul
import HandS.TupAny
import HandS.TupLe
import HandS.Conv
import HandS.SortInts
import HandS.SetKeys
import KE.GoesMore
import HandS.ExcInit
import KE.KTypeName
import HandS.ExcIs
import HandS.TryMany
import HandS.EndTab
import KE.KNest
import HandS.Dict
import HandS.More
import HandS.SortRule
import HandS.Strs
import PySem.Challenge.RW_waryrig_k03_signs_that_part_lots
set_option Elab.async false
set_option linter.all false
set_option maxRecDepth 100000
set_option maxHeartbeats 4000000
namespace L2
open PySem PySem.Spec PyProof.Rows
/-- the dict of an error: what it holds under "what" -/
def xw (d : Addr) (v : V) : HO := .ext fun h => ∃ mA, h.Ns1 d mA ∧ RelO (some v) (mA "what")
end L2
namespace Dn
open PySem PySem.Spec L2

/-! ## cold heaps -/
theorem sameT {K : PySem.W.Frag} {H H' : Hp} {a : Addr} {xs : List V} (e : Same H H') (h : SqT K H a xs) : SqT K H' a xs := by
  cases h with
  | inl h =>
    cases h with
    | inl h => exact Or.inl (Or.inl (e _ _ h))
    | inr h =>
      obtain ⟨o, h⟩ := h
      exact Or.inl (Or.inr ⟨o, e _ _ h⟩)
  | inr h => exact Or.inr h
mutual
theorem dpMono {K : PySem.W.Frag} {H H' : Hp} (e : Same H H') : ∀ {v : V} {d : PyData}, Dp K H v d → Dp K H' v d
  | _, _, .non => .non
  | _, _, .bl b => .bl b
  | _, _, .int i => .int i
  | _, _, .str x => .str x
  | _, _, .lst h hs => .lst (e.seq h) (dpaMono e hs)
  | _, _, .tup h hs => .tup (sameT e h) (dpaMono e hs)
theorem dpaMono {K : PySem.W.Frag} {H H' : Hp} (e : Same H H') : ∀ {vs : List V} {ds : List PyData}, DpAll K H vs ds → DpAll K H' vs ds
  | _, _, .nil => .nil
  | _, _, .cons h hs => .cons (dpMono e h) (dpaMono e hs)
end
theorem dpaLen {K : PySem.W.Frag} {H : Hp} : ∀ {vs : List V} {ds : List PyData}, DpAll K H vs ds → vs.length = ds.length
  | _, _, .nil => rfl
  | _, _, .cons _ hs => congrArg (· + 1) (dpaLen hs)
theorem dpaGet {K : PySem.W.Frag} {H : Hp} : ∀ {vs : List V} {ds : List PyData} {i : Nat} {d : PyData}, DpAll K H vs ds → ds[i]? = some d → ∃ v, vs[i]? = some v ∧ Dp K H v d
  | _, _, _, _, .nil, e => by simp at e
  | _, _, 0, _, .cons h _, e => by
    simp at e
    subst e
    exact ⟨_, rfl, h⟩
  | _, _, i + 1, d, .cons _ hs, e => by
    obtain ⟨v, h1, h2⟩ := dpaGet (i := i) (d := d) hs (by simpa using e)
    exact ⟨v, by simpa using h1, h2⟩
theorem dpaApp {K : PySem.W.Frag} {H : Hp} : ∀ {vs ws : List V} {ds es : List PyData}, DpAll K H vs ds → DpAll K H ws es → DpAll K H (vs ++ ws) (ds ++ es)
  | _, _, _, _, .nil, g => g
  | _, _, _, _, .cons h hs, g => .cons h (dpaApp hs g)
theorem dpaSet {K : PySem.W.Frag} {H : Hp} {v : V} {d : PyData} (h : Dp K H v d) : ∀ {vs : List V} {ds : List PyData} (i : Nat), DpAll K H vs ds → DpAll K H (vs.set i v) (ds.set i d)
  | _, _, _, .nil => .nil
  | _, _, 0, .cons _ hs => .cons h hs
  | _, _, i + 1, .cons g hs => .cons g (dpaSet h i hs)
theorem dpaTake {K : PySem.W.Frag} {H : Hp} : ∀ {vs : List V} {ds : List PyData} (n : Nat), DpAll K H vs ds → DpAll K H (vs.take n) (ds.take n)
  | _, _, 0, _ => .nil
  | _, _, _ + 1, .nil => .nil
  | _, _, n + 1, .cons h hs => .cons h (dpaTake n hs)
theorem dpaDrop {K : PySem.W.Frag} {H : Hp} : ∀ {vs : List V} {ds : List PyData} (n : Nat), DpAll K H vs ds → DpAll K H (vs.drop n) (ds.drop n)
  | _, _, 0, h => h
  | _, _, _ + 1, .nil => .nil
  | _, _, n + 1, .cons _ hs => dpaDrop n hs

/-- the written part holds no data here: every list and tuple stands in the heap -/
abbrev KD : PySem.W.Frag := []
theorem upL {K : PySem.W.Frag} {H : Hp} {a : Addr} {xs : List V} (h : SqL KD H a xs) : SqL K H a xs := by
  rcases h with h | ⟨o, its, n, hk, _⟩
  · exact Or.inl h
  · cases hk
theorem upT {K : PySem.W.Frag} {H : Hp} {a : Addr} {xs : List V} (h : SqT KD H a xs) : SqT K H a xs := by
  rcases h with h | ⟨o, its, n, hk, _⟩
  · exact Or.inl h
  · cases hk
mutual
theorem dpUp {K : PySem.W.Frag} {H : Hp} : ∀ {v : V} {d : PyData}, Dp KD H v d → Dp K H v d
  | _, _, .non => .non
  | _, _, .bl b => .bl b
  | _, _, .int i => .int i
  | _, _, .str x => .str x
  | _, _, .lst h hs => .lst (upL h) (dpaUp hs)
  | _, _, .tup h hs => .tup (upT h) (dpaUp hs)
theorem dpaUp {K : PySem.W.Frag} {H : Hp} : ∀ {vs : List V} {ds : List PyData}, DpAll KD H vs ds → DpAll K H vs ds
  | _, _, .nil => .nil
  | _, _, .cons h hs => .cons (dpUp h) (dpaUp hs)
end

/-! ## tuples that are known to have no attributes -/
def pairD : PyData → Bool
  | .tuple [.int _, .int _] => true
  | _ => false
/-- a tuple of pairs of ints, not () -/
def isMv (ds : List PyData) : Bool := !ds.isEmpty && ds.all pairD
/-- it is none -/
def Np (C : Hp) (xs : List V) : Prop := xs = [] ∨ ∃ x ∈ xs, (∀ t, x ≠ .ref t) ∨ ∃ t o, x = .ref t ∧ C t = some o ∧ ∀ (i j : Int), o ≠ .tup [.int i, .int j] ∧ ∀ u, o ≠ .frz u (.tup [.int i, .int j])
theorem Np.mono {C C' : Hp} {xs : List V} (s : Same C C') (h : Np C xs) : Np C' xs := by
  rcases h with h | ⟨x, hx, h | ⟨t, o, h1, h2, h3⟩⟩
  · exact .inl h
  · exact .inr ⟨x, hx, .inl h⟩
  · exact .inr ⟨x, hx, .inr ⟨t, o, h1, s _ _ h2, h3⟩⟩
theorem pairOfD {C : Hp} {x : V} {d : PyData} (h : Dp KD C x d) (hp : pairD d = false) : (∀ t, x ≠ .ref t) ∨ ∃ t o, x = .ref t ∧ C t = some o ∧ ∀ (i j : Int), o ≠ .tup [.int i, .int j] ∧ ∀ u, o ≠ .frz u (.tup [.int i, .int j]) := by
  cases h with
  | non => exact .inl fun _ z => by cases z
  | bl b => exact .inl fun _ z => by cases z
  | int i => exact .inl fun _ z => by cases z
  | str z => exact .inl fun _ z => by cases z
  | @lst a xs ds hs hd =>
    rcases hs with (h | ⟨o, h⟩) | ⟨o, its, n, hk, _⟩
    · exact .inr ⟨a, _, rfl, h, fun i j => ⟨fun z => (by cases z), fun u z => (by cases z)⟩⟩
    · exact .inr ⟨a, _, rfl, h, fun i j => ⟨fun z => (by cases z), fun u z => (by cases z)⟩⟩
    · cases hk
  | @tup a xs ds hs hd =>
    have no : ∀ i j : Int, xs ≠ [.int i, .int j] := fun i j z => by
      subst z
      cases hd with
      | cons h1 t =>
        cases t with
        | cons h2 t =>
          cases t
          cases h1
          cases h2
          cases hp
    rcases hs with (h | ⟨o, h⟩) | ⟨o, its, n, hk, _⟩
    · exact .inr ⟨a, _, rfl, h, fun i j => ⟨fun z => (by cases z; exact no i j rfl), fun u z => (by cases z)⟩⟩
    · exact .inr ⟨a, _, rfl, h, fun i j => ⟨fun z => (by cases z), fun u z => (by cases z; exact no i j rfl)⟩⟩
    · cases hk
theorem npOf {C : Hp} : ∀ {xs : List V} {ds : List PyData}, DpAll KD C xs ds → isMv ds = false → Np C xs
  | _, _, .nil, _ => .inl rfl
  | x :: xs, d :: ds, .cons h t, hm => by
    have go : ∀ {xs : List V} {ds : List PyData}, DpAll KD C xs ds → ds.all pairD = false → ∃ x ∈ xs, (∀ t, x ≠ .ref t) ∨ ∃ t o, x = .ref t ∧ C t = some o ∧ ∀ (i j : Int), o ≠ .tup [.int i, .int j] ∧ ∀ u, o ≠ .frz u (.tup [.int i, .int j]) := by
      intro xs ds h
      induction ds generalizing xs with
      | nil => intro z; cases z
      | cons d ds ih =>
        intro z
        cases h with
        | @cons x xs _ _ h t =>
          cases hp : pairD d with
          | false => exact ⟨x, List.mem_cons_self, pairOfD h hp⟩
          | true =>
            rw [List.all_cons, hp, Bool.true_and] at z
            obtain ⟨y, hy, r⟩ := ih t z
            exact ⟨y, List.mem_cons_of_mem _ hy, r⟩
    exact .inr (go (.cons h t) (by simpa [isMv] using hm))
theorem npNot {C : Hp} {xs : List V} {ds : List PyData} (h : DpAll KD C xs ds) (hm : isMv ds = true) : ¬ Np C xs := by
  have h1 : ds ≠ [] := fun z => by subst z; cases hm
  have h2 : ds.all pairD = true := by
    unfold isMv at hm
    exact (Bool.and_eq_true_iff.mp hm).2
  intro np
  rcases np with z | ⟨x, hx, z⟩
  · subst z
    cases h
    exact h1 rfl
  · have go : ∀ {xs : List V} {ds : List PyData}, DpAll KD C xs ds → x ∈ xs → ds.all pairD = true → ∃ d, Dp KD C x d ∧ pairD d = true := by
      intro xs ds h
      induction ds generalizing xs with
      | nil =>
        cases h
        intro z
        cases z
      | cons d ds ih =>
        cases h with
        | @cons y xs _ _ h t =>
          intro hx ha
          rw [List.all_cons, Bool.and_eq_true] at ha
          rcases List.mem_cons.mp hx with rfl | hx
          · exact ⟨d, h, ha.1⟩
          · exact ih t hx ha.2
    obtain ⟨d, hd, hp⟩ := go h hx h2
    unfold pairD at hp
    split at hp
    · rename_i i j
      cases hd with
      | @tup a ys es hs ha =>
        cases ha with
        | cons q1 t =>
          cases t with
          | cons q2 t =>
            cases t
            cases q1
            cases q2
            rcases z with z | ⟨t, o, e, ho, no⟩
            · exact z a rfl
            · cases e
              rcases hs with (h | ⟨u, h⟩) | ⟨u, its, n, hk, _⟩
              · rw [h] at ho
                cases ho
                exact (no i j).1 rfl
              · rw [h] at ho
                cases ho
                exact (no i j).2 u rfl
              · cases hk
    · cases hp
/-- what is put into the cold heap -/
def ColdOk (C : Hp) : Prop := (∀ (b : Addr) (ps : Array Value), C b ≠ some (.tbl ps)) ∧ (∀ (b : Addr) (xs : List V), C b = some (.tup xs) → Np C xs) ∧ ∀ (b : Addr) (o : Obj) (xs : List V), C b = some (.frz o (.tup xs)) → o.dict = none
/-- what may be put there, of C' -/
def PutOk (C' : Hp) (o : HO) : Prop := (∀ ps, o ≠ .tbl ps) ∧ (∀ xs, o = .tup xs → Np C' xs) ∧ ∀ u xs, o = .frz u (.tup xs) → u.dict = none
theorem PutOk.lst {C : Hp} {xs : List V} : PutOk C (.lst xs) := ⟨fun _ z => (by cases z), fun _ z => (by cases z), fun _ _ z => (by cases z)⟩
theorem PutOk.xw {C : Hp} {d : Addr} {v : V} : PutOk C (L2.xw d v) := ⟨fun _ z => (by unfold L2.xw at z; cases z), fun _ z => (by unfold L2.xw at z; cases z), fun _ _ z => (by unfold L2.xw at z; cases z)⟩
theorem PutOk.tup {C : Hp} {xs : List V} (h : Np C xs) : PutOk C (.tup xs) := ⟨fun _ z => (by cases z), fun _ z => (by cases z; exact h), fun _ _ z => (by cases z)⟩
theorem PutOk.bare {C : Hp} {o : Obj} {xs : List V} (h : o.dict = none) : PutOk C (.frz o (.tup xs)) := ⟨fun _ z => (by cases z), fun _ z => (by cases z), fun _ _ z => (by cases z; exact h)⟩
/-- a heap that has just what C has, and such things -/
theorem ColdOk.more {C C' : Hp} (h : ColdOk C) (s : Same C C') (n : ∀ b o, C' b = some o → C b = some o ∨ PutOk C' o) : ColdOk C' := by
  refine ⟨fun b ps z => ?_, fun b xs z => ?_, fun b o xs z => ?_⟩
  · rcases n b _ z with e | e
    · exact h.1 b ps e
    · exact e.1 ps rfl
  · rcases n b _ z with e | e
    · exact (h.2.1 b xs e).mono s
    · exact e.2.1 xs rfl
  · rcases n b _ z with e | e
    · exact h.2.2 b o xs e
    · exact e.2.2 o xs rfl
/-! ## entities, environments, outcomes -/
inductive Ent where
  | val (d : PyData)
  | hot (xs : List PyData)
  | hotD (kvs : List (PyData × PyData))
  | hotLL (xss : List (List PyData))
  | hotDL (kvss : List (PyData × List PyData))
def Ent.isHot : Ent → Bool
  | .val _ => false
  | _ => true
abbrev Rho := List (Option Ent)
inductive Out (α : Type) where
  | ok (a : α) (r : Rho)
  | ex (c : Str) (w : PyData) (r : Rho)
  | bad
abbrev Mi (α : Type) := Rho → Out α
def Mi.ret {α : Type} (a : α) : Mi α := fun r => .ok a r
def Mi.bind {α β : Type} (m : Mi α) (f : α → Mi β) : Mi β := fun r => match m r with
  | .ok a r' => f a r'
  | .ex c w r' => .ex c w r'
  | .bad => .bad
def Mi.opt {α : Type} (o : Option α) : Mi α := fun r => match o with
  | some a => .ok a r
  | none => .bad
/-- what a def returns: a value, or a thing that nobody else holds -/
inductive Rv where
  | cold (d : PyData)
  | fresh (ds : List PyData)
  | tree (e : Ent)
inductive Fl where
  | nx (r : Rho)
  | rt (d : Rv) (r : Rho)
  | bk (r : Rho)
  | ct (r : Rho)
  | ex (c : Str) (w : PyData) (r : Rho)
  | bad

/-- what stood at the entry: the cold heap, the heap, the slots that hold a caller's thing, with all addresses of it -/
structure Fr0 where
  C0 : Hp
  H0 : Hp
  pp : List (Nat × List Addr)
  gd : List (Addr × HO) := []
  tb : List (Addr × Str) := []
  rw : List (Nat × Addr) := []
  B : Hp := fun _ => none

def keyD : Key → PyData
  | .inl i => .int i
  | .inr x => .str x
def LsAt (K : PySem.W.Frag) (C H : Hp) : List Addr → List (List PyData) → Prop := Paired fun (b : Addr) (ys : List PyData) => C b = none ∧ ∃ ws, H b = some (.lst ws) ∧ DpAll K C ws ys
/-- entries of a dict -/
def KvAt (K : PySem.W.Frag) (C : Hp) : List (Key × V) → List (PyData × PyData) → Prop := Paired fun (p : Key × V) (q : PyData × PyData) => keyD p.1 = q.1 ∧ Dp K C p.2 q.2
/-- entries of a dict of lists -/
def KlAt (K : PySem.W.Frag) (C H : Hp) : List (Key × Addr) → List (PyData × List PyData) → Prop := Paired fun (p : Key × Addr) (q : PyData × List PyData) => keyD p.1 = q.1 ∧ C p.2 = none ∧ ∃ ws, H p.2 = some (.lst ws) ∧ DpAll K C ws q.2
/-- a value stands for an entity; its own addresses -/
def EntAt (K : PySem.W.Frag) (C H : Hp) (v : V) : Ent → List Addr → Prop
  | .val d, A => A = [] ∧ Dp K C v d
  | .hot xs, A => ∃ a vs, v = .ref a ∧ A = [a] ∧ C a = none ∧ H a = some (.lst vs) ∧ DpAll K C vs xs
  | .hotD kvs, A => ∃ a kv, v = .ref a ∧ A = [a] ∧ C a = none ∧ H a = some (.dK kv) ∧ KvAt K C kv kvs
  | .hotLL xss, A => ∃ a as, v = .ref a ∧ A = a :: as ∧ A.Nodup ∧ C a = none ∧ H a = some (.lst (as.map V.ref)) ∧ LsAt K C H as xss
  | .hotDL kvss, A => ∃ a ka, v = .ref a ∧ A = a :: ka.map (fun (p : Key × Addr) => p.2) ∧ A.Nodup ∧ C a = none ∧ H a = some (.dK (ka.map fun p => (p.1, V.ref p.2))) ∧ KlAt K C H ka kvss
def slotOk (K : PySem.W.Frag) (C H : Hp) (v : V) (e : Ent) : Prop := ∃ A, EntAt K C H v e A
theorem pairRec {α β : Type} {R S : α → β → Prop} : ∀ {xs : List α} {ys : List β}, Paired R xs ys → (∀ x ∈ xs, ∀ y, R x y → S x y) → Paired S xs ys
  | _, _, .nil, _ => .nil
  | _, _, .cons r t, h => .cons (h _ List.mem_cons_self _ r) (pairRec t fun x hx => h x (List.mem_cons_of_mem _ hx))
theorem refInj : ∀ {as bs : List Addr}, as.map V.ref = bs.map V.ref → as = bs
  | [], [], _ => rfl
  | [], _ :: _, h => by simp at h
  | _ :: _, [], h => by simp at h
  | a :: as, b :: bs, h => by
    simp only [List.map_cons, List.cons.injEq] at h
    obtain ⟨h1, h2⟩ := h
    cases h1
    rw [refInj h2]
theorem kaInj : ∀ {as bs : List (Key × Addr)}, (as.map fun p => (p.1, V.ref p.2)) = (bs.map fun p => (p.1, V.ref p.2)) → as = bs
  | [], [], _ => rfl
  | [], _ :: _, h => by simp at h
  | _ :: _, [], h => by simp at h
  | a :: as, b :: bs, h => by
    simp only [List.map_cons, List.cons.injEq, Prod.mk.injEq] at h
    obtain ⟨⟨h1, h2⟩, h3⟩ := h
    rw [kaInj h3]
    congr 1
    exact Prod.ext h1 (V.ref.inj h2)
theorem KvAt.mono {K : PySem.W.Frag} {C C' : Hp} (s : Same C C') {kv : List (Key × V)} {kvs : List (PyData × PyData)} (h : KvAt K C kv kvs) : KvAt K C' kv kvs := pairRec h fun x _ y ⟨h1, h2⟩ => ⟨h1, dpMono s h2⟩
theorem KlAt.loc {K : PySem.W.Frag} {C H C' H' : Hp} (s : Same C C') {ka : List (Key × Addr)} {kvss : List (PyData × List PyData)} (hl : ∀ b ∈ ka.map (fun p => p.2), C' b = none ∧ H' b = H b) (h : KlAt K C H ka kvss) : KlAt K C' H' ka kvss :=
  pairRec h fun p hp ys ⟨h1, _, ws, h2, h3⟩ => ⟨h1, (hl _ (List.mem_map_of_mem hp)).1, ws, (hl _ (List.mem_map_of_mem hp)).2.trans h2, dpaMono s h3⟩
theorem KlAt.mem {K : PySem.W.Frag} {C H : Hp} : ∀ {ka : List (Key × Addr)} {kvss : List (PyData × List PyData)}, KlAt K C H ka kvss → ∀ b ∈ ka.map (fun p => p.2), C b = none ∧ ∃ ws, H b = some (.lst ws)
  | _, _, .nil, _, h => by cases h
  | _, _, .cons r t, b, h => by
    rcases List.mem_cons.mp h with rfl | h
    · obtain ⟨_, h1, ws, h2, _⟩ := r
      exact ⟨h1, ws, h2⟩
    · exact KlAt.mem t b h
theorem EntAt.det {K : PySem.W.Frag} {C H : Hp} {v : V} {e : Ent} {A B : List Addr} (h : EntAt K C H v e A) (g : EntAt K C H v e B) : A = B := by
  cases e with
  | val d => exact h.1.trans g.1.symm
  | hot xs =>
    obtain ⟨a, vs, rfl, rfl, _⟩ := h
    obtain ⟨b, ws, e, rfl, _⟩ := g
    cases e
    rfl
  | hotD xs =>
    obtain ⟨a, vs, rfl, rfl, _⟩ := h
    obtain ⟨b, ws, e, rfl, _⟩ := g
    cases e
    rfl
  | hotLL xs =>
    obtain ⟨a, as, rfl, rfl, _, _, h1, _⟩ := h
    obtain ⟨b, bs, e, rfl, _, _, h2, _⟩ := g
    cases e
    rw [h1] at h2
    cases refInj (HO.lst.inj (Option.some.inj h2))
    rfl
  | hotDL xs =>
    obtain ⟨a, as, rfl, rfl, _, _, h1, _⟩ := h
    obtain ⟨b, bs, e, rfl, _, _, h2, _⟩ := g
    cases e
    rw [h1] at h2
    cases kaInj (HO.dK.inj (Option.some.inj h2))
    rfl
theorem LsAt.loc {K : PySem.W.Frag} {C H C' H' : Hp} (s : Same C C') {as : List Addr} {xss : List (List PyData)} (hl : ∀ b ∈ as, C' b = none ∧ H' b = H b) (h : LsAt K C H as xss) : LsAt K C' H' as xss :=
  pairRec h fun b hb ys ⟨_, ws, h2, h3⟩ => ⟨(hl b hb).1, ws, (hl b hb).2.trans h2, dpaMono s h3⟩
theorem EntAt.loc {K : PySem.W.Frag} {C H C' H' : Hp} {v : V} {e : Ent} {A : List Addr} (s : Same C C') (hl : ∀ b ∈ A, C' b = none ∧ H' b = H b) (h : EntAt K C H v e A) : EntAt K C' H' v e A := by
  cases e with
  | val d => exact ⟨h.1, dpMono s h.2⟩
  | hot xs =>
    obtain ⟨a, vs, rfl, rfl, h1, h2, h3⟩ := h
    obtain ⟨l1, l2⟩ := hl a List.mem_cons_self
    exact ⟨a, vs, rfl, rfl, l1, l2.trans h2, dpaMono s h3⟩
  | hotD xs =>
    obtain ⟨a, vs, rfl, rfl, h1, h2, h3⟩ := h
    obtain ⟨l1, l2⟩ := hl a List.mem_cons_self
    exact ⟨a, vs, rfl, rfl, l1, l2.trans h2, h3.mono s⟩
  | hotLL xs =>
    obtain ⟨a, as, rfl, rfl, h0, h1, h2, h3⟩ := h
    obtain ⟨l1, l2⟩ := hl a List.mem_cons_self
    exact ⟨a, as, rfl, rfl, h0, l1, l2.trans h2, h3.loc s fun b hb => hl b (List.mem_cons_of_mem _ hb)⟩
  | hotDL xs =>
    obtain ⟨a, as, rfl, rfl, h0, h1, h2, h3⟩ := h
    obtain ⟨l1, l2⟩ := hl a List.mem_cons_self
    exact ⟨a, as, rfl, rfl, h0, l1, l2.trans h2, h3.loc s fun b hb => hl b (List.mem_cons_of_mem _ hb)⟩
theorem LsAt.mem {K : PySem.W.Frag} {C H : Hp} : ∀ {as : List Addr} {xss : List (List PyData)}, LsAt K C H as xss → ∀ b ∈ as, C b = none ∧ ∃ ws, H b = some (.lst ws)
  | _, _, .nil, _, h => by cases h
  | _, _, .cons r t, b, h => by
    rcases List.mem_cons.mp h with rfl | h
    · obtain ⟨h1, ws, h2, _⟩ := r
      exact ⟨h1, ws, h2⟩
    · exact LsAt.mem t b h
theorem EntAt.put {K : PySem.W.Frag} {C H : Hp} {v : V} {e : Ent} {A : List Addr} (h : EntAt K C H v e A) : ∀ b ∈ A, ∃ o, H b = some o ∧ ((∃ xs, o = .lst xs) ∨ ∃ kv, o = .dK kv) := by
  intro b hb
  cases e with
  | val d =>
    rw [h.1] at hb
    cases hb
  | hot xs =>
    obtain ⟨a, vs, rfl, rfl, h1, h2, h3⟩ := h
    cases List.mem_singleton.mp hb
    exact ⟨_, h2, .inl ⟨_, rfl⟩⟩
  | hotD xs =>
    obtain ⟨a, vs, rfl, rfl, h1, h2, h3⟩ := h
    cases List.mem_singleton.mp hb
    exact ⟨_, h2, .inr ⟨_, rfl⟩⟩
  | hotLL xs =>
    obtain ⟨a, as, rfl, rfl, h0, h1, h2, h3⟩ := h
    rcases List.mem_cons.mp hb with rfl | hb
    · exact ⟨_, h2, .inl ⟨_, rfl⟩⟩
    · obtain ⟨e1, ws, e2⟩ := LsAt.mem h3 b hb
      exact ⟨_, e2, .inl ⟨_, rfl⟩⟩
  | hotDL xs =>
    obtain ⟨a, as, rfl, rfl, h0, h1, h2, h3⟩ := h
    rcases List.mem_cons.mp hb with rfl | hb
    · exact ⟨_, h2, .inr ⟨_, rfl⟩⟩
    · obtain ⟨e1, ws, e2⟩ := KlAt.mem h3 b hb
      exact ⟨_, e2, .inl ⟨_, rfl⟩⟩
theorem EntAt.mem {K : PySem.W.Frag} {C H : Hp} {v : V} {e : Ent} {A : List Addr} (h : EntAt K C H v e A) : ∀ b ∈ A, C b = none ∧ ∃ o, H b = some o ∧ ∀ ps, o ≠ .tbl ps := by
  intro b hb
  cases e with
  | val d =>
    rw [h.1] at hb
    cases hb
  | hot xs =>
    obtain ⟨a, vs, rfl, rfl, h1, h2, h3⟩ := h
    cases List.mem_singleton.mp hb
    exact ⟨h1, _, h2, fun _ z => by cases z⟩
  | hotD xs =>
    obtain ⟨a, vs, rfl, rfl, h1, h2, h3⟩ := h
    cases List.mem_singleton.mp hb
    exact ⟨h1, _, h2, fun _ z => by cases z⟩
  | hotLL xs =>
    obtain ⟨a, as, rfl, rfl, h0, h1, h2, h3⟩ := h
    rcases List.mem_cons.mp hb with rfl | hb
    · exact ⟨h1, _, h2, fun _ z => by cases z⟩
    · obtain ⟨e1, ws, e2⟩ := LsAt.mem h3 b hb
      exact ⟨e1, _, e2, fun _ z => by cases z⟩
  | hotDL xs =>
    obtain ⟨a, as, rfl, rfl, h0, h1, h2, h3⟩ := h
    rcases List.mem_cons.mp hb with rfl | hb
    · exact ⟨h1, _, h2, fun _ z => by cases z⟩
    · obtain ⟨e1, ws, e2⟩ := KlAt.mem h3 b hb
      exact ⟨e1, _, e2, fun _ z => by cases z⟩
theorem EntAt.root {K : PySem.W.Frag} {C H : Hp} {v : V} {e : Ent} {A : List Addr} (h : EntAt K C H v e A) (he : e.isHot = true) : ∃ a B, v = .ref a ∧ A = a :: B := by
  cases e with
  | val d => cases he
  | hot xs =>
    obtain ⟨a, vs, h1, h2, _⟩ := h
    exact ⟨a, [], h1, h2⟩
  | hotD xs =>
    obtain ⟨a, vs, h1, h2, _⟩ := h
    exact ⟨a, [], h1, h2⟩
  | hotLL xs =>
    obtain ⟨a, as, h1, h2, _⟩ := h
    exact ⟨a, as, h1, h2⟩
  | hotDL xs =>
    obtain ⟨a, as, h1, h2, _⟩ := h
    exact ⟨a, as.map (fun p => p.2), h1, h2⟩
theorem EntAt.cold {K : PySem.W.Frag} {C H : Hp} {v : V} {e : Ent} {A : List Addr} (h : EntAt K C H v e A) (he : e.isHot = false) : A = [] := by
  cases e with
  | val d => exact h.1
  | _ => cases he
/-- b is one of the addresses of slot i -/
def Own (K : PySem.W.Frag) (C : Hp) (σ : St) (H : Hp) (ρ : Rho) (i : Nat) (b : Addr) : Prop := ∃ e v A, ρ[i]? = some (some e) ∧ σ[i]? = some (some v) ∧ EntAt K C H v e A ∧ b ∈ A

structure RE (K : PySem.W.Frag) (F : Fr0) (C : Hp) (σ : St) (H : Hp) (ρ : Rho) : Prop where
  c0 : Same F.C0 C
  ch : Same C H
  fr : ∀ b o, F.H0 b = some o → F.C0 b = none → C b = none ∧ (∃ o', H b = some o') ∧ ((∀ p ∈ F.pp, b ∉ p.2) → (∀ ps, o ≠ .tbl ps) → H b = some o)
  sl : ∀ (i : Nat) (e : Ent), ρ[i]? = some (some e) → ∃ v A, σ[i]? = some (some v) ∧ EntAt K C H v e A
  inj : ∀ (i j : Nat) (b : Addr), Own K C σ H ρ i b → Own K C σ H ρ j b → i = j
  own : ∀ (i : Nat) (b : Addr), Own K C σ H ρ i b → (∃ p ∈ F.pp, p.1 = i ∧ b ∈ p.2) ∨ F.H0 b = none
  pin : ∀ p ∈ F.pp, ∃ a B e, p.2 = a :: B ∧ σ[p.1]? = some (some (.ref a)) ∧ ρ[p.1]? = some (some e) ∧ e.isHot = true
  len : σ.length = ρ.length
  gds : ∀ q ∈ F.gd, C q.1 = none ∧ H q.1 = some q.2 ∧ F.H0 q.1 = none ∧ (∀ j, ¬ Own K C σ H ρ j q.1) ∧ ∀ ps, q.2 ≠ .tbl ps
  tabs : LamX.Tabs F.tb H
  tabC : ColdOk C
  raw : ∀ q ∈ F.rw, σ[q.1]? = some (some (.ref q.2))
  bb : Same F.B C

/-- the heap has grown by cold objects -/
structure Ext (C H C' H' : Hp) : Prop where
  cc : Same C C'
  ch : Same C' H'
  hh : Same H H'
  hot : ∀ b o, H b = some o → C b = none → C' b = none
  nt : ColdOk C → ColdOk C'
theorem Ext.refl {C H : Hp} (h : Same C H) : Ext C H C H := ⟨Same.refl _, h, Same.refl _, fun _ _ _ h => h, fun h => h⟩
theorem Ext.trans {C H C1 H1 C2 H2 : Hp} (a : Ext C H C1 H1) (b : Ext C1 H1 C2 H2) : Ext C H C2 H2 :=
  ⟨a.cc.trans b.cc, b.ch, a.hh.trans b.hh, fun x o h1 h2 => b.hot x o (a.hh _ _ h1) (a.hot x o h1 h2), fun h => b.nt (a.nt h)⟩
theorem sameUpd {H : Hp} {p : Addr} {o : HO} (h : H p = none) : Same H (upd H p o) := fun b x e => by
  rw [upd_ne (ne_of_none e h)]
  exact e
theorem sameUpd2 {C H : Hp} {p : Addr} {o : HO} (s : Same C H) : Same (upd C p o) (upd H p o) := fun b x e => by
  by_cases hb : b = p
  · subst hb
    rw [upd_same] at e ⊢
    exact e
  · rw [upd_ne hb] at e ⊢
    exact s _ _ e
theorem Ext.put {C H : Hp} {p : Addr} {o : HO} (s : Same C H) (hn : H p = none) (ht : PutOk (upd C p o) o) : Ext C H (upd C p o) (upd H p o) where
  nt := fun h => h.more (sameUpd (s.free hn)) fun b u e => by
    by_cases hb : b = p
    · subst hb
      rw [upd_same] at e
      cases e
      exact .inr ht
    · rw [upd_ne hb] at e
      exact .inl e
  cc := sameUpd (s.free hn)
  ch := sameUpd2 s
  hh := sameUpd hn
  hot := fun b x h1 h2 => by
    rw [upd_ne (ne_of_none h1 hn)]
    exact h2
theorem Ext.new {C H : Hp} {p : Addr} {o : HO} (s : Same C H) (hn : H p = none) (ht : PutOk (upd C p o) o := by first | exact PutOk.lst | exact PutOk.xw) : Ext C H (upd C p o) (upd H p o) := Ext.put s hn ht
theorem tabsUpd {T : List (Addr × Str)} {H : Hp} {a : Addr} {vs ws : List V} (h : LamX.Tabs T H) (ha : H a = some (.lst vs)) : LamX.Tabs T (upd H a (.lst ws)) := fun p hp => by
  obtain ⟨ps, e1, e2, e3⟩ := h p hp
  have n : p.1 ≠ a := fun z => by
    rw [z, ha] at e1
    cases e1
  refine ⟨ps, by rw [upd_ne n]; exact e1, e2, fun pos cv hc => ?_⟩
  obtain ⟨c, f1, f2⟩ := e3 pos cv hc
  refine ⟨c, f1, ?_⟩
  rw [upd_ne (fun z => by rw [z, ha] at f2; cases f2)]
  exact f2
theorem tabsNe {T : List (Addr × Str)} {H : Hp} {a : Addr} {vs : List V} (h : LamX.Tabs T H) (ha : H a = some (.lst vs)) : ∀ p ∈ T, p.1 ≠ a := fun p hp z => by
  obtain ⟨ps, e1, _⟩ := h p hp
  rw [z, ha] at e1
  cases e1
theorem ntUpd {C : Hp} {p : Addr} {vs : List V} (h : ColdOk C) (hn : C p = none) : ColdOk (upd C p (.lst vs)) := h.more (sameUpd hn) fun b u e => by
  by_cases hb : b = p
  · subst hb
    rw [upd_same] at e
    cases e
    exact .inr .lst
  · rw [upd_ne hb] at e
    exact .inl e

section
variable {K : PySem.W.Frag} {F : Fr0} {C H C' H' : Hp} {σ σ' : St} {ρ ρ' : Rho}
theorem RE.slA (R : RE K F C σ H ρ) {i : Nat} {e : Ent} {v : V} (h : ρ[i]? = some (some e)) (hv : σ[i]? = some (some v)) : ∃ A, EntAt K C H v e A := by
  obtain ⟨v', A, h1, h2⟩ := R.sl i e h
  rw [hv] at h1
  cases h1
  exact ⟨A, h2⟩
theorem RE.lt (R : RE K F C σ H ρ) {i : Nat} {o : Option Ent} (h : ρ[i]? = some o) : i < ρ.length := by
  rcases Nat.lt_or_ge i ρ.length with z | z
  · exact z
  · rw [List.getElem?_eq_none z] at h
    cases h
/-- an own address: hot, there, no table -/
theorem Own.mem {i : Nat} {b : Addr} (h : Own K C σ H ρ i b) : C b = none ∧ ∃ o, H b = some o ∧ ∀ ps, o ≠ .tbl ps := by
  obtain ⟨e, v, A, _, _, h3, h4⟩ := h
  exact h3.mem b h4
/-- the one way in which heaps and slots go on -/
theorem RE.step (R : RE K F C σ H ρ) (cc : Same C C') (ch : Same C' H') (len : σ'.length = ρ'.length)
    (fr : ∀ b o, H b = some o → C b = none → F.H0 b ≠ none → C' b = none ∧ (∃ o', H' b = some o') ∧ ((∀ i, ¬ Own K C σ H ρ i b) → (∀ ps, o ≠ .tbl ps) → H' b = some o))
    (sl : ∀ (i : Nat) (e : Ent), ρ'[i]? = some (some e) → ∃ v A, σ'[i]? = some (some v) ∧ EntAt K C' H' v e A)
    (own : ∀ (i : Nat) (b : Addr), Own K C' σ' H' ρ' i b → Own K C σ H ρ i b ∨ (F.H0 b = none ∧ ∀ q ∈ F.gd, q.1 ≠ b))
    (inj : ∀ (i j : Nat) (b : Addr), Own K C' σ' H' ρ' i b → Own K C' σ' H' ρ' j b → i = j)
    (pin : ∀ p ∈ F.pp, σ'[p.1]? = σ[p.1]? ∧ ∃ e, ρ'[p.1]? = some (some e) ∧ e.isHot = true)
    (gds : ∀ q ∈ F.gd, C q.1 = none → H q.1 = some q.2 → (∀ j, ¬ Own K C σ H ρ j q.1) → (∀ ps, q.2 ≠ .tbl ps) → C' q.1 = none ∧ H' q.1 = some q.2)
    (tabs : LamX.Tabs F.tb H') (tabC : ColdOk C') (raw : ∀ q ∈ F.rw, σ'[q.1]? = σ[q.1]?) : RE K F C' σ' H' ρ' := by
  refine ⟨R.c0.trans cc, ch, fun b o q1 q2 => ?_, sl, inj, fun i b h => ?_, fun p hp => ?_, len, fun q hq => ?_, tabs, tabC, fun q hq => (raw q hq).trans (R.raw q hq), R.bb.trans cc⟩
  · obtain ⟨e1, ⟨o', e2⟩, e3⟩ := R.fr b o q1 q2
    have nn : F.H0 b ≠ none := fun z => by rw [z] at q1; cases q1
    obtain ⟨f1, f2, f3⟩ := fr b o' e2 e1 nn
    refine ⟨f1, f2, fun z nt => ?_⟩
    have e4 := e3 z nt
    rw [e2] at e4
    cases e4
    refine f3 (fun i hi => ?_) nt
    rcases R.own i b hi with ⟨p, hp, _, hb⟩ | w
    · exact z p hp hb
    · exact nn w
  · rcases own i b h with z | z
    · exact R.own i b z
    · exact .inr z.1
  · obtain ⟨a, B, e, h1, h2, _⟩ := R.pin p hp
    obtain ⟨g1, e', g2, g3⟩ := pin p hp
    exact ⟨a, B, e', h1, g1.trans h2, g2, g3⟩
  · obtain ⟨e1, e2, e3, e4, e5⟩ := R.gds q hq
    obtain ⟨f1, f2⟩ := gds q hq e1 e2 e4 e5
    refine ⟨f1, f2, e3, fun j h => ?_, e5⟩
    rcases own j q.1 h with z | z
    · exact e4 j z
    · exact z.2 q hq rfl
/-- slots that stay, by what stays of the heap -/
theorem Own.back (R : RE K F C σ H ρ) (cc : Same C C') {i : Nat} {b : Addr} {e : Ent} {v : V} (h1 : ρ[i]? = some (some e)) (h2 : σ[i]? = some (some v)) (hl : ∀ b, Own K C σ H ρ i b → C' b = none ∧ H' b = H b) {A : List Addr} (h : EntAt K C' H' v e A) (hb : b ∈ A) : Own K C σ H ρ i b := by
  obtain ⟨B, g⟩ := R.slA h1 h2
  have g' := g.loc cc fun b hb => hl b ⟨e, v, B, h1, h2, g, hb⟩
  have z := g'.det h
  subst z
  exact ⟨e, v, _, h1, h2, g, hb⟩
/-- only slot i changes; what is written or put away lies within it or is new -/
theorem RE.one (R : RE K F C σ H ρ) (cc : Same C C') (ch : Same C' H') (i : Nat) {en : Option Ent} {v : Option V} (hi : i < ρ.length)
    (fr : ∀ b o, H b = some o → C b = none → F.H0 b ≠ none → C' b = none ∧ (∃ o', H' b = some o') ∧ ((∀ i, ¬ Own K C σ H ρ i b) → (∀ ps, o ≠ .tbl ps) → H' b = some o))
    (oth : ∀ j, j ≠ i → ∀ b, Own K C σ H ρ j b → C' b = none ∧ H' b = H b)
    (sl : ∀ e, en = some e → ∃ u A, v = some u ∧ EntAt K C' H' u e A ∧ ∀ b ∈ A, Own K C σ H ρ i b ∨ (F.H0 b = none ∧ (∀ j, ¬ Own K C σ H ρ j b) ∧ ∀ q ∈ F.gd, q.1 ≠ b))
    (pin : ∀ p ∈ F.pp, p.1 = i → some v = σ[i]? ∧ ∃ e, en = some e ∧ e.isHot = true)
    (gds : ∀ q ∈ F.gd, C q.1 = none → H q.1 = some q.2 → (∀ j, ¬ Own K C σ H ρ j q.1) → (∀ ps, q.2 ≠ .tbl ps) → C' q.1 = none ∧ H' q.1 = some q.2)
    (tabs : LamX.Tabs F.tb H') (tabC : ColdOk C') (raw : ∀ q ∈ F.rw, q.1 = i → some v = σ[i]?) : RE K F C' (σ.set i v) H' (ρ.set i en) := by
  have hi' : i < σ.length := by rw [R.len]; exact hi
  have cases_ : ∀ j b, Own K C' (σ.set i v) H' (ρ.set i en) j b → (j ≠ i ∧ Own K C σ H ρ j b) ∨ (j = i ∧ (Own K C σ H ρ i b ∨ (F.H0 b = none ∧ (∀ j, ¬ Own K C σ H ρ j b) ∧ ∀ q ∈ F.gd, q.1 ≠ b))) := fun j b ⟨e, u, A, h1, h2, h3, h4⟩ => by
    by_cases hji : j = i
    · subst hji
      rw [List.getElem?_set_self hi] at h1
      rw [List.getElem?_set_self hi'] at h2
      obtain ⟨u', A', z1, z2, z3⟩ := sl e (Option.some.inj h1)
      have zu : u' = u := Option.some.inj (z1.symm.trans (Option.some.inj h2))
      subst zu
      have z := z2.det h3
      subst z
      exact .inr ⟨rfl, z3 b h4⟩
    · rw [List.getElem?_set_ne (fun z => hji z.symm)] at h1 h2
      exact .inl ⟨hji, Own.back R cc h1 h2 (oth j hji) h3 h4⟩
  refine R.step cc ch (by simp [R.len]) fr (fun j e h => ?_) (fun j b h => ?_) (fun j k b h1 h2 => ?_) (fun p hp => ?_) gds tabs tabC (fun q hq => ?_)
  · by_cases hji : j = i
    · subst hji
      rw [List.getElem?_set_self hi] at h
      obtain ⟨u, A, z1, z2, _⟩ := sl e (Option.some.inj h)
      exact ⟨u, A, by rw [List.getElem?_set_self hi', z1], z2⟩
    · rw [List.getElem?_set_ne (fun z => hji z.symm)] at h
      obtain ⟨u, A, z1, z2⟩ := R.sl j e h
      exact ⟨u, A, by rw [List.getElem?_set_ne (fun z => hji z.symm)]; exact z1, z2.loc cc fun b hb => oth j hji b ⟨e, u, A, h, z1, z2, hb⟩⟩
  · rcases cases_ j b h with ⟨_, z⟩ | ⟨rfl, z | z⟩
    · exact .inl z
    · exact .inl z
    · exact .inr ⟨z.1, z.2.2⟩
  · rcases cases_ j b h1 with ⟨n1, z1⟩ | ⟨rfl, z1 | z1⟩ <;> rcases cases_ k b h2 with ⟨n2, z2⟩ | ⟨rfl, z2 | z2⟩
    · exact R.inj j k b z1 z2
    · exact R.inj _ _ b z1 z2
    · exact absurd z1 (z2.2.1 j)
    · exact R.inj _ _ b z1 z2
    · rfl
    · exact absurd z1 (z2.2.1 _)
    · exact absurd z2 (z1.2.1 k)
    · rfl
    · rfl
  · by_cases hpi : p.1 = i
    · obtain ⟨g1, e, g2, g3⟩ := pin p hp hpi
      rw [hpi, List.getElem?_set_self hi', List.getElem?_set_self hi]
      exact ⟨g1, e, by rw [g2], g3⟩
    · obtain ⟨a, B, e, _, _, h3, h4⟩ := R.pin p hp
      rw [List.getElem?_set_ne (fun z => hpi z.symm), List.getElem?_set_ne (fun z => hpi z.symm)]
      exact ⟨rfl, e, h3, h4⟩
  · by_cases hqi : q.1 = i
    · rw [hqi, List.getElem?_set_self hi']
      exact raw q hq hqi
    · rw [List.getElem?_set_ne (fun z => hqi z.symm)]
/-- no slot changes -/
theorem RE.keep (R : RE K F C σ H ρ) (cc : Same C C') (ch : Same C' H')
    (fr : ∀ b o, H b = some o → C b = none → F.H0 b ≠ none → C' b = none ∧ (∃ o', H' b = some o') ∧ ((∀ i, ¬ Own K C σ H ρ i b) → (∀ ps, o ≠ .tbl ps) → H' b = some o))
    (oth : ∀ j b, Own K C σ H ρ j b → C' b = none ∧ H' b = H b)
    (gds : ∀ q ∈ F.gd, C q.1 = none → H q.1 = some q.2 → (∀ j, ¬ Own K C σ H ρ j q.1) → (∀ ps, q.2 ≠ .tbl ps) → C' q.1 = none ∧ H' q.1 = some q.2)
    (tabs : LamX.Tabs F.tb H') (tabC : ColdOk C') : RE K F C' σ H' ρ := by
  have bk : ∀ j b, Own K C' σ H' ρ j b → Own K C σ H ρ j b := fun j b ⟨e, u, A, h1, h2, h3, h4⟩ => Own.back R cc h1 h2 (oth j) h3 h4
  refine R.step cc ch R.len fr (fun j e h => ?_) (fun j b h => .inl (bk j b h)) (fun j k b h1 h2 => R.inj j k b (bk j b h1) (bk k b h2)) (fun p hp => ?_) gds tabs tabC (fun q hq => rfl)
  · obtain ⟨u, A, z1, z2⟩ := R.sl j e h
    exact ⟨u, A, z1, z2.loc cc fun b hb => oth j b ⟨e, u, A, h, z1, z2, hb⟩⟩
  · obtain ⟨a, B, e, _, _, h3, h4⟩ := R.pin p hp
    exact ⟨rfl, e, h3, h4⟩
theorem RE.grow (R : RE K F C σ H ρ) (x : Ext C H C' H') : RE K F C' σ H' ρ :=
  R.keep x.cc x.ch (fun b o h1 h2 _ => ⟨x.hot b o h1 h2, ⟨o, x.hh _ _ h1⟩, fun _ _ => x.hh _ _ h1⟩)
    (fun j b h => by
      obtain ⟨h1, o, h2, _⟩ := h.mem
      exact ⟨x.hot b o h2 h1, (x.hh _ _ h2).trans h2.symm⟩)
    (fun q _ h1 h2 _ _ => ⟨x.hot _ _ h2 h1, x.hh _ _ h2⟩) (R.tabs.ext x.hh) (x.nt R.tabC)
theorem RE.h0None {p : Addr} (R : RE K F C σ H ρ) (hn : H p = none) : F.H0 p = none := by
  cases e : F.H0 p with
  | none => rfl
  | some o =>
    cases e2 : F.C0 p with
    | none =>
      obtain ⟨_, ⟨o', h⟩, _⟩ := R.fr p o e e2
      rw [hn] at h
      cases h
    | some o2 =>
      have z := R.ch _ _ (R.c0 _ _ e2)
      rw [hn] at z
      cases z
theorem RE.gdNe {p : Addr} (R : RE K F C σ H ρ) (hn : H p = none) : ∀ q ∈ F.gd, q.1 ≠ p := fun q hq e => by
  obtain ⟨_, e2, _⟩ := R.gds q hq
  rw [e, hn] at e2
  cases e2
theorem RE.hotNe {p : Addr} (R : RE K F C σ H ρ) (hn : H p = none) : ∀ j, ¬ Own K C σ H ρ j p := fun j h => by
  obtain ⟨_, o, h2, _⟩ := h.mem
  rw [hn] at h2
  cases h2
theorem RE.hotNeU {p : Addr} (R : RE K F C σ H ρ) (hn : H p = none) (x : Ext C H C' H') : ∀ j, ¬ Own K C' σ H' ρ j p := fun j ⟨e, v, A, h1, h2, h3, h4⟩ =>
  R.hotNe hn j (Own.back R x.cc h1 h2 (fun b hb => by
    obtain ⟨g1, o, g2, _⟩ := hb.mem
    exact ⟨x.hot b o g2 g1, (x.hh _ _ g2).trans g2.symm⟩) h3 h4)
/-- a slot gets a cold value -/
theorem RE.setVal (R : RE K F C σ H ρ) {i : Nat} {v : V} {d : PyData} (hp : ∀ p ∈ F.pp.map (·.1) ++ F.rw.map (·.1), p ≠ i) (h : Dp K C v d) : RE K F C (σ.set i (some v)) H (ρ.set i (some (.val d))) := by
  by_cases hi : i < ρ.length
  · refine R.one (Same.refl _) R.ch i hi (fun b o h1 h2 _ => ⟨h2, ⟨o, h1⟩, fun _ _ => h1⟩) (fun j _ b hb => ⟨hb.mem.1, rfl⟩) (fun e he => ?_) (fun p hp' z => ?_) (fun q _ h1 h2 _ _ => ⟨h1, h2⟩) R.tabs R.tabC fun q hq z => ?_
    · cases he
      exact ⟨v, [], rfl, ⟨rfl, h⟩, fun b hb => by cases hb⟩
    · exact absurd z (hp _ (List.mem_append_left _ (List.mem_map_of_mem hp')))
    · exact absurd z (hp _ (List.mem_append_right _ (List.mem_map_of_mem hq)))
  · rw [List.set_eq_of_length_le (by rw [R.len]; omega), List.set_eq_of_length_le (by omega)]
    exact R
/-- a slot is forgotten -/
theorem RE.drop (R : RE K F C σ H ρ) {i : Nat} {o : Option V} (hp : ∀ p ∈ F.pp.map (·.1) ++ F.rw.map (·.1), p ≠ i) : RE K F C (σ.set i o) H (ρ.set i none) := by
  by_cases hi : i < ρ.length
  · refine R.one (Same.refl _) R.ch i hi (fun b o h1 h2 _ => ⟨h2, ⟨o, h1⟩, fun _ _ => h1⟩) (fun j _ b hb => ⟨hb.mem.1, rfl⟩) (fun e he => by cases he) (fun p hp' z => ?_) (fun q _ h1 h2 _ _ => ⟨h1, h2⟩) R.tabs R.tabC fun q hq z => ?_
    · exact absurd z (hp _ (List.mem_append_left _ (List.mem_map_of_mem hp')))
    · exact absurd z (hp _ (List.mem_append_right _ (List.mem_map_of_mem hq)))
  · rw [List.set_eq_of_length_le (by rw [R.len]; omega), List.set_eq_of_length_le (by omega)]
    exact R
theorem RE.entAt (R : RE K F C σ H ρ) {i : Nat} {e : Ent} (h : ρ[i]? = some (some e)) : ∃ v A, σ[i]? = some (some v) ∧ EntAt K C H v e A ∧ ∀ b ∈ A, Own K C σ H ρ i b := by
  obtain ⟨v, A, h1, h2⟩ := R.sl i e h
  exact ⟨v, A, h1, h2, fun b hb => ⟨e, v, A, h, h1, h2, hb⟩⟩
theorem RE.hotAt (R : RE K F C σ H ρ) {i : Nat} {xs : List PyData} (h : ρ[i]? = some (some (.hot xs))) : ∃ a vs, σ[i]? = some (some (.ref a)) ∧ C a = none ∧ H a = some (.lst vs) ∧ DpAll K C vs xs := by
  obtain ⟨v, A, e, a, vs, rfl, _, h1, h2, h3⟩ := R.sl i _ h
  exact ⟨a, vs, e, h1, h2, h3⟩
theorem RE.hotOwn (R : RE K F C σ H ρ) {i : Nat} {xs : List PyData} {a : Addr} (h : ρ[i]? = some (some (.hot xs))) (ha : σ[i]? = some (some (.ref a))) : Own K C σ H ρ i a := by
  obtain ⟨v, A, e, a', vs, rfl, h0, h1, h2, h3⟩ := R.sl i _ h
  rw [ha] at e
  cases e
  exact ⟨.hot xs, .ref a, A, h, ha, ⟨a, vs, rfl, h0, h1, h2, h3⟩, by rw [h0]; exact List.mem_cons_self⟩
/-- something of slot i is written -/
theorem RE.writeE (R : RE K F C σ H ρ) {i : Nat} {b : Addr} {u : HO} {e : Ent} {v : V} {A : List Addr} (hv : σ[i]? = some (some v)) (hb : Own K C σ H ρ i b) (he : e.isHot = true)
    (hw : EntAt K C (upd H b u) v e A) (hA : ∀ c ∈ A, Own K C σ H ρ i c ∨ (F.H0 c = none ∧ (∀ j, ¬ Own K C σ H ρ j c) ∧ ∀ q ∈ F.gd, q.1 ≠ c)) (ht : LamX.Tabs F.tb (upd H b u)) : RE K F C σ (upd H b u) (ρ.set i (some e)) := by
  obtain ⟨h1, o, h2, h3⟩ := hb.mem
  have hi : i < ρ.length := by
    obtain ⟨e', v', A', g1, _⟩ := hb
    exact R.lt g1
  have z := R.one (C' := C) (H' := upd H b u) (i := i) (en := some e) (v := some v) (Same.refl _) (fun c x hc => by
      rw [upd_ne (fun z => by subst z; rw [h1] at hc; cases hc)]
      exact R.ch _ _ hc) hi
    (fun c x hc1 hc2 _ => by
      refine ⟨hc2, ?_, fun n _ => ?_⟩
      · by_cases hcb : c = b
        · subst hcb
          exact ⟨_, upd_same⟩
        · exact ⟨x, by rw [upd_ne hcb]; exact hc1⟩
      · rw [upd_ne (fun z => by subst z; exact n i hb)]
        exact hc1)
    (fun j hj c hc => ⟨hc.mem.1, upd_ne (fun z => by subst z; exact hj (R.inj _ _ _ hc hb))⟩)
    (fun e' he' => by
      cases he'
      exact ⟨v, A, rfl, hw, hA⟩)
    (fun p hp hpi => ⟨hv.symm, e, rfl, he⟩)
    (fun q hq c1 c2 c3 _ => ⟨c1, by rw [upd_ne (fun z => by rw [z] at c3; exact c3 i hb)]; exact c2⟩) ht R.tabC (fun q hq hqi => hv.symm)
  have es : σ.set i (some v) = σ := by
    apply List.ext_getElem?
    intro j
    by_cases hj : i = j
    · subst hj
      rw [List.getElem?_set_self (by rw [R.len]; exact hi), hv]
    · rw [List.getElem?_set_ne hj]
  rw [es] at z
  exact z
/-- a hot list is written -/
theorem RE.write (R : RE K F C σ H ρ) {i : Nat} {xs ys : List PyData} {a : Addr} {ws : List V} (h : ρ[i]? = some (some (.hot xs))) (ha : σ[i]? = some (some (.ref a))) (hw : DpAll K C ws ys) :
    RE K F C σ (upd H a (.lst ws)) (ρ.set i (some (.hot ys))) := by
  obtain ⟨a', vs, e, h1, h2, h3⟩ := R.hotAt h
  rw [ha] at e
  cases e
  have o := R.hotOwn h ha
  exact R.writeE (A := [a]) ha o rfl ⟨a, ws, rfl, rfl, h1, upd_same, hw⟩ (fun c hc => by
    cases List.mem_singleton.mp hc
    exact .inl o) (tabsUpd R.tabs h2)
/-- a new thing is put into a slot, hot -/
theorem RE.setE (R : RE K F C σ H ρ) {i : Nat} {v : V} {e : Ent} {A : List Addr} (hp : ∀ p ∈ F.pp.map (·.1) ++ F.rw.map (·.1), p ≠ i) (he : EntAt K C H v e A)
    (hA : ∀ b ∈ A, F.H0 b = none ∧ (∀ j, ¬ Own K C σ H ρ j b) ∧ ∀ q ∈ F.gd, q.1 ≠ b) : RE K F C (σ.set i (some v)) H (ρ.set i (some e)) := by
  by_cases hi : i < ρ.length
  · refine R.one (Same.refl _) R.ch i hi (fun b o h1 h2 _ => ⟨h2, ⟨o, h1⟩, fun _ _ => h1⟩) (fun j _ b hb => ⟨hb.mem.1, rfl⟩) (fun e' he' => ?_) (fun p hp' z => ?_) (fun q _ h1 h2 _ _ => ⟨h1, h2⟩) R.tabs R.tabC fun q hq z => ?_
    · cases he'
      exact ⟨v, A, rfl, he, fun b hb => .inr (hA b hb)⟩
    · exact absurd z (hp _ (List.mem_append_left _ (List.mem_map_of_mem hp')))
    · exact absurd z (hp _ (List.mem_append_right _ (List.mem_map_of_mem hq)))
  · rw [List.set_eq_of_length_le (by rw [R.len]; omega), List.set_eq_of_length_le (by omega)]
    exact R
theorem RE.setHot (R : RE K F C σ H ρ) {i : Nat} {p : Addr} {ws : List V} {ys : List PyData} (hp : ∀ p ∈ F.pp.map (·.1) ++ F.rw.map (·.1), p ≠ i) (hn : C p = none) (hh : H p = some (.lst ws)) (hw : DpAll K C ws ys)
    (hx : ∀ j, ¬ Own K C σ H ρ j p) (h0 : F.H0 p = none) (hg : ∀ q ∈ F.gd, q.1 ≠ p) : RE K F C (σ.set i (some (.ref p))) H (ρ.set i (some (.hot ys))) :=
  R.setE (A := [p]) hp ⟨p, ws, rfl, rfl, hn, hh, hw⟩ fun b hb => by
    cases List.mem_singleton.mp hb
    exact ⟨h0, hx, hg⟩
/-- a new list grows cold -/
theorem RE.cool {p : Addr} {ws : List V} (R : RE K F C σ H ρ) (hn : C p = none) (hh : H p = some (.lst ws))
    (hx : ∀ j, ¬ Own K C σ H ρ j p) (h0 : F.H0 p = none) (hg : ∀ q ∈ F.gd, q.1 ≠ p) : RE K F (upd C p (.lst ws)) σ H ρ :=
  R.keep (sameUpd hn) (fun b o q => by
      by_cases hb : b = p
      · subst hb
        rw [upd_same] at q
        cases q
        exact hh
      · rw [upd_ne hb] at q
        exact R.ch _ _ q)
    (fun b o h1 h2 h3 => ⟨by rw [upd_ne (fun z => by subst z; exact h3 h0)]; exact h2, ⟨o, h1⟩, fun _ _ => h1⟩)
    (fun j b h => ⟨by rw [upd_ne (fun z => by subst z; exact hx j h)]; exact h.mem.1, rfl⟩)
    (fun q hq h1 h2 _ _ => ⟨by rw [upd_ne (hg q hq)]; exact h1, h2⟩) R.tabs (ntUpd R.tabC hn)
/-- a hot list of one's own grows cold -/
theorem RE.freeze (R : RE K F C σ H ρ) {i : Nat} {xs : List PyData} (h : ρ[i]? = some (some (.hot xs))) (hp : ∀ p ∈ F.pp.map (·.1) ++ F.rw.map (·.1), p ≠ i) :
    ∃ a C', σ[i]? = some (some (.ref a)) ∧ Same C C' ∧ Dp K C' (.ref a) (.list xs) ∧ RE K F C' σ H (ρ.set i (some (.val (.list xs)))) := by
  obtain ⟨a, vs, e, h1, h2, h3⟩ := R.hotAt h
  have hi := R.lt h
  have o := R.hotOwn h e
  have h0 : F.H0 a = none := by
    rcases R.own i a o with ⟨p, hp', z, _⟩ | w
    · exact absurd z (hp _ (List.mem_append_left _ (List.mem_map_of_mem hp')))
    · exact w
  have s1 : Same C (upd C a (.lst vs)) := sameUpd h1
  have hd : Dp K (upd C a (.lst vs)) (.ref a) (.list xs) := .lst (.inl (.inl upd_same)) (dpaMono s1 h3)
  have z := R.one (C' := upd C a (.lst vs)) (H' := H) (i := i) (en := some (.val (.list xs))) (v := some (.ref a)) s1 (fun b o q => by
      by_cases hb : b = a
      · subst hb
        rw [upd_same] at q
        cases q
        exact h2
      · rw [upd_ne hb] at q
        exact R.ch _ _ q) hi
    (fun b o h1 h2 h3 => ⟨by rw [upd_ne (fun z => by subst z; exact h3 h0)]; exact h2, ⟨o, h1⟩, fun _ _ => h1⟩)
    (fun j hj b hb => ⟨by rw [upd_ne (fun z => by subst z; exact hj (R.inj _ _ _ hb o))]; exact hb.mem.1, rfl⟩)
    (fun e' he' => by
      cases he'
      exact ⟨.ref a, [], rfl, ⟨rfl, hd⟩, fun b hb => by cases hb⟩)
    (fun p hp' z => absurd z (hp _ (List.mem_append_left _ (List.mem_map_of_mem hp'))))
    (fun q hq c1 c2 c3 _ => ⟨by rw [upd_ne (fun z => by rw [z] at c3; exact c3 i o)]; exact c1, c2⟩) R.tabs (ntUpd R.tabC h1) (fun q hq hqi => e.symm)
  have es : σ.set i (some (.ref a)) = σ := by
    apply List.ext_getElem?
    intro j
    by_cases hj : i = j
    · subst hj
      rw [List.getElem?_set_self (by rw [R.len]; exact hi), e]
    · rw [List.getElem?_set_ne hj]
  rw [es] at z
  exact ⟨a, _, e, s1, hd, z⟩
end
end Dn
set_option maxHeartbeats 4000000
namespace Dn
open PySem PySem.Spec L2

structure Pn where
  ps : List Nat
  tb : List (Addr × Str)
  ok : Fr0 → Prop
def FOk (F : Fr0) (P : Pn) : Prop := F.pp.map (·.1) ++ F.rw.map (·.1) = P.ps ∧ F.tb = P.tb ∧ P.ok F
def XP (X : Cx) (F : Fr0) (W : WX) (C : Hp) (σ : L2.St) (c : Str) (w : PyData) (r : Rho) : Prop :=
  ∀ (A d : Addr) (v : V) (C' H' : Hp), X.mg c = some (.ref A) → Same C C' → RE KD F C' σ H' r → C' d = some (xw d v) → Dp KD C' v w → W (.ref A) (some d) σ H'
def Po {α β : Type} (X : Cx) (F : Fr0) (W : WX) (Rel : L2.St → Hp → β → α → Prop) (C : Hp) (σ : L2.St) (Q : β → Hp → Prop) : Out α → Prop
  | .ok a r => ∀ b C' H', Same C C' → RE KD F C' σ H' r → Rel σ C' b a → Q b H'
  | .ex c w r => XP X F W C σ c w r
  | .bad => False
def tM {α β : Type} (X : Cx) (F : Fr0) (W : WX) (Rel : L2.St → Hp → β → α → Prop) (m : Mi α) : L2.St → Hp → (β → Hp → Prop) → Prop := fun σ H Q =>
  ∃ C ρ, RE KD F C σ H ρ ∧ Po X F W Rel C σ Q (m ρ)
section
variable {X : Cx} {F : Fr0} {W : WX} {C C' : Hp} {σ : L2.St}
theorem XP.mono {c : Str} {w : PyData} {r : Rho} (h : XP X F W C σ c w r) (s : Same C C') : XP X F W C' σ c w r := fun A d v C2 H' h1 h2 => h A d v C2 H' h1 (s.trans h2)
theorem Po.mono {α β : Type} {Rel : L2.St → Hp → β → α → Prop} {Q : β → Hp → Prop} {o : Out α} (h : Po X F W Rel C σ Q o) (s : Same C C') : Po X F W Rel C' σ Q o := by
  cases o with
  | ok a r => exact fun b C2 H' h1 => h b C2 H' (s.trans h1)
  | ex c w r => exact XP.mono h s
  | bad => exact h
theorem Po.imp {α β : Type} {Rel : L2.St → Hp → β → α → Prop} {Q Q' : β → Hp → Prop} {o : Out α} (h : Po X F W Rel C σ Q o) (q : ∀ b H, Q b H → Q' b H) : Po X F W Rel C σ Q' o := by
  cases o with
  | ok a r => exact fun b C2 H' h1 h2 h3 => q _ _ (h b C2 H' h1 h2 h3)
  | ex c w r => exact h
  | bad => exact h
theorem poBind {α β γ δ : Type} {Rel1 : L2.St → Hp → β → α → Prop} {Rel2 : L2.St → Hp → δ → γ → Prop} {ma : Mi α} {f : α → Mi γ} {Q : δ → Hp → Prop} {ρ : Rho} (h : Po X F W Rel2 C σ Q ((ma.bind f) ρ)) :
    Po X F W Rel1 C σ (fun b H1 => ∃ C1 ρ1 a, Same C C1 ∧ RE KD F C1 σ H1 ρ1 ∧ Rel1 σ C1 b a ∧ Po X F W Rel2 C1 σ Q (f a ρ1)) (ma ρ) := by
  unfold Mi.bind at h
  cases e : ma ρ with
  | ok a r =>
    rw [e] at h
    exact fun b C1 H1 s R d => ⟨C1, r, a, s, R, d, h.mono s⟩
  | ex c w r =>
    rw [e] at h
    exact h
  | bad =>
    rw [e] at h
    exact h
theorem poRet {α β : Type} {Rel : L2.St → Hp → β → α → Prop} {Q : β → Hp → Prop} {H : Hp} {ρ : Rho} {a : α} {b : β} (h : Po X F W Rel C σ Q (.ok a ρ)) (R : RE KD F C σ H ρ) (d : Rel σ C b a) : Q b H := h b C H (Same.refl _) R d
end

def RelD (X : Cx) : L2.St → Hp → V → PyData → Prop := fun _ C v d => Dp KD C v d
def RelB : L2.St → Hp → Bool → Bool → Prop := fun _ _ b a => b = a
def RelL (X : Cx) (n : Nat) : L2.St → Hp → List V → List PyData → Prop := fun _ C vs ds => DpAll KD C vs ds ∧ ds.length = n
/-- an expression, a test, a row of expressions -/
def DE (X : Cx) (W : WX) (P : Pn) (m : Mi PyData) (e : Expr) : Prop := ∀ F : Fr0, FOk F P → PE X e (tM X F W (RelD X) m)
def DT (X : Cx) (W : WX) (P : Pn) (m : Mi Bool) (e : Expr) : Prop := ∀ F : Fr0, FOk F P → PT X e (tM X F W RelB m)
def DA (X : Cx) (W : WX) (P : Pn) (m : Mi (List PyData)) (es : List Expr) : Prop := ∀ F : Fr0, FOk F P → PA X es (tM X F W (RelL X es.length) m)
theorem notPin {F : Fr0} {P : Pn} {i : Nat} (h : FOk F P) (hi : i ∉ P.ps) : ∀ p ∈ F.pp.map (·.1) ++ F.rw.map (·.1), p ≠ i := fun p hp e => hi (by
  rw [← h.1, ← e]
  exact hp)
theorem peImp {X : Cx} {e : Expr} {t t' : TE} (h : PE X e t) (i : ∀ (σ : L2.St) H Q, t' σ H Q → t σ H Q) : PE X e t' := ⟨fun pins s σ H Q I w => h.run pins s σ H Q I (i σ H Q w)⟩
theorem ptImp {X : Cx} {e : Expr} {t t' : TT} (h : PT X e t) (i : ∀ (σ : L2.St) H Q, t' σ H Q → t σ H Q) : PT X e t' := ⟨fun pins s σ H Q I w => h.run pins s σ H Q I (i σ H Q w)⟩
theorem paImp {X : Cx} {es : List Expr} {t t' : TA} (h : PA X es t) (i : ∀ (σ : L2.St) H Q, t' σ H Q → t σ H Q) : PA X es t' := ⟨fun ps pins s σ H Q I w => h.run ps pins s σ H Q I (i σ H Q w)⟩

section
variable {X : Cx} {W : WX} {P : Pn} {a b c e : Expr} {es rest : List Expr} {ma mb mc : Mi PyData} {pos : Pos}

/-! ### constants, names -/
theorem deConst {v : V} {d : PyData} (h : PE X e (tC v)) (hd : ∀ C, Dp KD C v d) : DE X W P (Mi.ret d) e := fun F _ => peImp h fun σ H Q ⟨C, ρ, R, p⟩ => poRet p R (hd C)
theorem deInt {i j} : DE X W P (Mi.ret (.int i)) (.Constant (.int i) j pos) := deConst pe_int fun _ => .int i
theorem deBl {k j} : DE X W P (Mi.ret (.bool k)) (.Constant (.bool k) j pos) := deConst pe_bl fun _ => .bl k
theorem deNon {j} : DE X W P (Mi.ret .none) (.Constant .none j pos) := deConst pe_non fun _ => .non
theorem deStr {x j} : DE X W P (Mi.ret (.str x)) (.Constant (.str x) j pos) := deConst pe_str fun _ => .str x
/-- a constant of the module's top -/
theorem deGlob {x : Str} {v : V} {u : Value} {d : PyData} (hg : Gl X x) (hm : X.mg x = some u) (r : RelV v u) (hd : ∀ C, Dp KD C v d) (hdb : (x == ("__debug__" : Str)) = false := by decide) : DE X W P (Mi.ret d) (.Name x pos) := deConst (pe_glob hg hm r hdb) hd
def mVar (i : Nat) : Mi PyData := fun r => match r[i]? with
  | some (some (.val d)) => .ok d r
  | some (some (.hot xs)) => .ok (.list xs) (r.set i (some (.val (.list xs))))
  | _ => .bad
theorem deVar {i : Nat} {x : Str} (h : PE X (.Name x pos) (tVar i)) (hi : i ∉ P.ps) : DE X W P (mVar i) (.Name x pos) := fun F hF => peImp h fun σ H Q ⟨C, ρ, R, p⟩ => by
  unfold mVar at p
  cases e : ρ[i]? with
  | none =>
    rw [e] at p
    exact p.elim
  | some o =>
    rw [e] at p
    cases o with
    | none => exact p.elim
    | some en =>
      cases en with
      | val d =>
        obtain ⟨v, A, e1, _, e2⟩ := R.sl i _ e
        exact ⟨v, e1, poRet p R e2⟩
      | hot xs =>
        obtain ⟨a, C', e1, s, d, R'⟩ := R.freeze e (notPin hF hi)
        exact ⟨_, e1, p _ C' H s R' d⟩
      | _ => exact p.elim

/-! ### operators -/
def rD (f : PyData → PyData → Option PyData) : R2 := fun x y H Q => ∃ C a b d, f a b = some d ∧ Same C H ∧ Dp KD C x a ∧ Dp KD C y b ∧ ∀ v C' H', Ext C H C' H' → Dp KD C' v d → Q v H'
def mBin (f : PyData → PyData → Option PyData) (ma mb : Mi PyData) : Mi PyData := ma.bind fun a => mb.bind fun b => Mi.opt (f a b)
theorem opImp {F : Fr0} (hF : FOk F P) {f : PyData → PyData → Option PyData} {σ : L2.St} {H : Hp} {Q : VK} (h : tM X F W (RelD X) (mBin f ma mb) σ H Q) :
    tOp (rD f) (tM X F W (RelD X) ma) (tM X F W (RelD X) mb) σ H Q := by
  obtain ⟨C, ρ, R, h⟩ := h
  refine ⟨C, ρ, R, (poBind h).imp fun x H1 ⟨C1, ρ1, a, s1, R1, d1, h1⟩ => ⟨C1, ρ1, R1, (poBind h1).imp fun y H2 ⟨C2, ρ2, b, s2, R2, d2, h2⟩ => ?_⟩⟩
  cases e : f a b with
  | none =>
    simp only [e, Mi.opt] at h2
    exact h2.elim
  | some d =>
    simp only [e, Mi.opt] at h2
    exact ⟨C2, a, b, d, e, R2.ch, dpMono s2 d1, d2, fun v C' H' ex dv => h2 v C' H' ex.cc (R2.grow ex) dv⟩
theorem deOp {op : Operator} {f : PyData → PyData → Option PyData} (ho : OpR X (binaryOp op) (rD f)) (ha : DE X W P ma a) (hb : DE X W P mb b) : DE X W P (mBin f ma mb) (.BinOp a op b pos) :=
  fun F hF => peImp (pe_op ho (ha F hF) (hb F hF)) fun σ H Q h => opImp hF h
theorem deCmp {op : CmpOp} {f : PyData → PyData → Option PyData} (ho : OpR X (compareOp op) (rD f)) (ha : DE X W P ma a) (hb : DE X W P mb b) (hm : behindInMarks op b = false) : DE X W P (mBin f ma mb) (.Compare a [op] [b] pos) :=
  fun F hF => peImp (pe_cmpR ho (ha F hF) (hb F hF) hm) fun σ H Q h => opImp hF h
def mIx (f : PyData → PyData → Option PyData) (ma mb : Mi PyData) : Mi PyData := mBin f ma mb
theorem deIx {f : PyData → PyData → Option PyData} (ho : IxR X (rD f)) (ha : DE X W P ma a) (hb : DE X W P mb b) (hs : PlainIx b) : DE X W P (mBin f ma mb) (.Subscript a b pos) :=
  fun F hF => peImp (pe_ix ho (ha F hF) (hb F hF) hs) fun σ H Q h => opImp hF h

/-! ### truth -/
def truth : PyData → Option Bool
  | .none => some false
  | .bool b => some b
  | .int i => some (i != 0)
  | .list xs => some (!xs.isEmpty)
  | .tuple xs => some (!xs.isEmpty)
  | _ => none
theorem dpaEmpty {K : PySem.W.Frag} {H : Hp} {vs : List V} {ds : List PyData} (h : DpAll K H vs ds) : (!ds.isEmpty) = !vs.isEmpty := by
  cases h <;> rfl
theorem truOk {K : PySem.W.Frag} {C H : Hp} {x : V} {d : PyData} {k : Bool} (s : Same C H) (h : Dp KD C x d) (e : truth d = some k) : TruV K x H k := by
  cases h with
  | non => exact (Option.some.inj e).symm
  | bl b => exact (Option.some.inj e).symm
  | int i => exact (Option.some.inj e).symm
  | str z => cases e
  | lst h1 h2 => exact .inl ⟨_, upL (s.seq h1), (Option.some.inj e).symm.trans (dpaEmpty h2)⟩
  | tup h1 h2 => exact .inr (.inl ⟨_, upT (sameT s h1), (Option.some.inj e).symm.trans (dpaEmpty h2)⟩)
def mTru (m : Mi PyData) : Mi Bool := m.bind fun d => Mi.opt (truth d)
theorem dtOf (h : DE X W P ma a) (he : ∀ whole, isTrue a X.env whole = (do let v ← whole; standAt a.pos; holding [v] (truthy v)) := by intro _; rfl) : DT X W P (mTru ma) a :=
  fun F hF => ptImp (pt_truth (h F hF) he) fun σ H Q ⟨C, ρ, R, p⟩ => ⟨C, ρ, R, (poBind p).imp fun x H1 ⟨C1, ρ1, d, s1, R1, d1, h1⟩ => by
    cases e : truth d with
    | none =>
      simp only [e, Mi.opt] at h1
      exact h1.elim
    | some k =>
      simp only [e, Mi.opt] at h1
      exact ⟨k, truOk R1.ch d1 e, poRet h1 R1 rfl⟩⟩
/-- a comparison as a test -/
def fB (f : PyData → PyData → Option Bool) : PyData → PyData → Option PyData := fun a b => (f a b).map PyData.bool
def mTst (f : PyData → PyData → Option Bool) (ma mb : Mi PyData) : Mi Bool := ma.bind fun a => mb.bind fun b => Mi.opt (f a b)
theorem dtCmp {op : CmpOp} {f : PyData → PyData → Option Bool} (ho : OpR X (compareOp op) (rD (fB f))) (ha : DE X W P ma a) (hb : DE X W P mb b) (hm : behindInMarks op b = false) : DT X W P (mTst f ma mb) (.Compare a [op] [b] pos) :=
  fun F hF => ptImp (pt_cmpR ho (ha F hF) (hb F hF) hm) fun σ H Q ⟨C, ρ, R, h⟩ => by
    refine ⟨C, ρ, R, (poBind h).imp fun x H1 ⟨C1, ρ1, a, s1, R1, d1, h1⟩ => ⟨C1, ρ1, R1, (poBind h1).imp fun y H2 ⟨C2, ρ2, b, s2, R2, d2, h2⟩ => ?_⟩⟩
    cases e : f a b with
    | none =>
      simp only [e, Mi.opt] at h2
      exact h2.elim
    | some k =>
      simp only [e, Mi.opt] at h2
      refine ⟨C2, a, b, .bool k, by simp [fB, e], R2.ch, dpMono s2 d1, d2, fun v C' H' ex dv => ?_⟩
      cases dv
      exact ⟨k, rfl, h2 k C' H' ex.cc (R2.grow ex) rfl⟩
/-- a < b < c -/
def mChain (f g : PyData → PyData → Option Bool) (ma mb mc : Mi PyData) : Mi PyData := ma.bind fun a => mb.bind fun b => (Mi.opt (f a b)).bind fun k => if k then mc.bind fun c => Mi.opt (fB g b c) else Mi.ret (.bool false)
theorem deChain {op op' : CmpOp} {f g : PyData → PyData → Option Bool} {pos} (ho : OpR X (compareOp op) (rD (fB f))) (ho' : OpR X (compareOp op') (rD (fB g))) (ha : DE X W P ma a) (hb : DE X W P mb b) (hc : DE X W P mc c)
    (hx : ∀ ta tb tc, PE X a ta → PE X b tb → PE X c tc → PE X (.Compare a [op, op'] [b, c] pos) (tChain (rD (fB f)) (rD (fB g)) ta tb tc)) : DE X W P (mChain f g ma mb mc) (.Compare a [op, op'] [b, c] pos) :=
  fun F hF => peImp (hx _ _ _ (ha F hF) (hb F hF) (hc F hF)) fun σ H Q ⟨C, ρ, R, h⟩ => by
    refine ⟨C, ρ, R, (poBind h).imp fun x H1 ⟨C1, ρ1, a, s1, R1, d1, h1⟩ => ⟨C1, ρ1, R1, (poBind h1).imp fun y H2 ⟨C2, ρ2, b, s2, R2, d2, h2⟩ => ?_⟩⟩
    cases e : f a b with
    | none =>
      simp only [e, Mi.opt, Mi.bind] at h2
      exact h2.elim
    | some k =>
      simp only [e, Mi.opt, Mi.bind] at h2
      refine ⟨C2, a, b, .bool k, by simp [fB, e], R2.ch, dpMono s2 d1, d2, fun v C3 H3 ex dv => ?_⟩
      cases dv
      have R3 := R2.grow ex
      refine ⟨k, rfl, ?_⟩
      cases k with
      | false =>
        simp only [Bool.false_eq_true, if_false] at h2
        exact iteF (h2 _ C3 H3 ex.cc R3 (.bl false))
      | true =>
        simp only [if_true] at h2
        refine iteT ⟨C3, ρ2, R3, (poBind (h2.mono ex.cc)).imp fun z H4 ⟨C4, ρ4, c, s4, R4, d4, h4⟩ => ?_⟩
        cases e2 : fB g b c with
        | none =>
          simp only [e2, Mi.opt] at h4
          exact h4.elim
        | some d =>
          simp only [e2, Mi.opt] at h4
          exact ⟨C4, b, c, d, e2, R4.ch, dpMono s4 (dpMono ex.cc d2), d4, fun v C' H' ex dv => h4 v C' H' ex.cc (R4.grow ex) dv⟩
/-! ### and, or, not -/
def mAnd (ma mb : Mi PyData) : Mi PyData := ma.bind fun a => (Mi.opt (truth a)).bind fun k => if k then mb else Mi.ret a
def mOr (ma mb : Mi PyData) : Mi PyData := ma.bind fun a => (Mi.opt (truth a)).bind fun k => if k then Mi.ret a else mb
def mNot (ma : Mi PyData) : Mi PyData := ma.bind fun a => (Mi.opt (truth a)).bind fun k => Mi.ret (.bool (!k))
theorem deOne {op} (h : DE X W P ma a) : DE X W P ma (.BoolOp op [a] pos) := fun F hF => pe_one (h F hF)
theorem deAnd (ha : DE X W P ma a) (hb : DE X W P mb (.BoolOp .And (b :: rest) pos)) : DE X W P (mAnd ma mb) (.BoolOp .And (a :: b :: rest) pos) :=
  fun F hF => peImp (pe_andT (ha F hF) (hb F hF)) fun σ H Q ⟨C, ρ, R, h⟩ => ⟨C, ρ, R, (poBind h).imp fun x H1 ⟨C1, ρ1, a, s1, R1, d1, h1⟩ => by
    cases e : truth a with
    | none =>
      simp only [e, Mi.opt, Mi.bind] at h1
      exact h1.elim
    | some k =>
      simp only [e, Mi.opt, Mi.bind] at h1
      refine ⟨k, truOk R1.ch d1 e, ?_⟩
      cases k with
      | false =>
        simp only [Bool.false_eq_true, if_false] at h1
        exact iteF (poRet h1 R1 d1)
      | true =>
        simp only [if_true] at h1
        exact iteT ⟨C1, ρ1, R1, h1⟩⟩
theorem deOr (ha : DE X W P ma a) (hb : DE X W P mb (.BoolOp .Or (b :: rest) pos)) : DE X W P (mOr ma mb) (.BoolOp .Or (a :: b :: rest) pos) :=
  fun F hF => peImp (pe_orT (ha F hF) (hb F hF)) fun σ H Q ⟨C, ρ, R, h⟩ => ⟨C, ρ, R, (poBind h).imp fun x H1 ⟨C1, ρ1, a, s1, R1, d1, h1⟩ => by
    cases e : truth a with
    | none =>
      simp only [e, Mi.opt, Mi.bind] at h1
      exact h1.elim
    | some k =>
      simp only [e, Mi.opt, Mi.bind] at h1
      refine ⟨k, truOk R1.ch d1 e, ?_⟩
      cases k with
      | false =>
        simp only [Bool.false_eq_true, if_false] at h1
        exact iteF ⟨C1, ρ1, R1, h1⟩
      | true =>
        simp only [if_true] at h1
        exact iteT (poRet h1 R1 d1)⟩
theorem deNot (ha : DE X W P ma a) : DE X W P (mNot ma) (.UnaryOp .Not a pos) :=
  fun F hF => peImp (pe_notT (ha F hF)) fun σ H Q ⟨C, ρ, R, h⟩ => ⟨C, ρ, R, (poBind h).imp fun x H1 ⟨C1, ρ1, a, s1, R1, d1, h1⟩ => by
    cases e : truth a with
    | none =>
      simp only [e, Mi.opt, Mi.bind] at h1
      exact h1.elim
    | some k =>
      simp only [e, Mi.opt, Mi.bind] at h1
      exact ⟨k, truOk R1.ch d1 e, poRet h1 R1 (.bl _)⟩⟩
def tAndM (ma mb : Mi Bool) : Mi Bool := ma.bind fun k => if k then mb else Mi.ret false
def tOrM (ma mb : Mi Bool) : Mi Bool := ma.bind fun k => if k then Mi.ret true else mb
def tNotM (ma : Mi Bool) : Mi Bool := ma.bind fun k => Mi.ret (!k)
def DW (X : Cx) (W : WX) (P : Pn) (m : Mi Bool) (e : Expr) : Prop := ∀ F : Fr0, FOk F P → PW X e (tM X F W RelB m)
theorem pwImp {X : Cx} {e : Expr} {t t' : TT} (h : PW X e t) (i : ∀ (σ : L2.St) H Q, t' σ H Q → t σ H Q) : PW X e t' := ⟨fun wh pins s σ H Q I w => h.run wh pins s σ H Q I (i σ H Q w)⟩
theorem dtW {m : Mi Bool} (h : DW X W P m e) : DT X W P m e := fun F hF => (h F hF).pt
section
variable {ka kb : Mi Bool}
theorem dwAnd1 (ha : DT X W P ka a) : DW X W P ka (.BoolOp .And [a] pos) := fun F hF => pw_and1 (ha F hF)
theorem dwOr1 (ha : DT X W P ka a) : DW X W P ka (.BoolOp .Or [a] pos) := fun F hF => pw_or1 (ha F hF)
theorem dwAnd (ha : DT X W P ka a) (hb : DW X W P kb (.BoolOp .And (b :: rest) pos)) : DW X W P (tAndM ka kb) (.BoolOp .And (a :: b :: rest) pos) :=
  fun F hF => pwImp (pw_and (ha F hF) (hb F hF)) fun σ H Q ⟨C, ρ, R, h⟩ => ⟨C, ρ, R, (poBind h).imp fun x H1 ⟨C1, ρ1, a, s1, R1, d1, h1⟩ => by
    have d1' : x = a := d1
    subst d1'
    cases x with
    | false =>
      simp only [Bool.false_eq_true, if_false] at h1
      exact iteF (poRet h1 R1 rfl)
    | true =>
      simp only [if_true] at h1
      exact iteT ⟨C1, ρ1, R1, h1⟩⟩
theorem dwOr (ha : DT X W P ka a) (hb : DW X W P kb (.BoolOp .Or (b :: rest) pos)) : DW X W P (tOrM ka kb) (.BoolOp .Or (a :: b :: rest) pos) :=
  fun F hF => pwImp (pw_or (ha F hF) (hb F hF)) fun σ H Q ⟨C, ρ, R, h⟩ => ⟨C, ρ, R, (poBind h).imp fun x H1 ⟨C1, ρ1, a, s1, R1, d1, h1⟩ => by
    have d1' : x = a := d1
    subst d1'
    cases x with
    | false =>
      simp only [Bool.false_eq_true, if_false] at h1
      exact iteF ⟨C1, ρ1, R1, h1⟩
    | true =>
      simp only [if_true] at h1
      exact iteT (poRet h1 R1 rfl)⟩
theorem dtNot (ha : DT X W P ka a) : DT X W P (tNotM ka) (.UnaryOp .Not a pos) :=
  fun F hF => ptImp (pt_not (ha F hF)) fun σ H Q ⟨C, ρ, R, h⟩ => ⟨C, ρ, R, (poBind h).imp fun x H1 ⟨C1, ρ1, a, s1, R1, d1, h1⟩ => by
    have d1' : x = a := d1
    subst d1'
    exact poRet h1 R1 rfl⟩
/-- a if t else b -/
def mIf (t : Mi Bool) (ma mb : Mi PyData) : Mi PyData := t.bind fun k => if k then ma else mb
theorem deIf (ht : DT X W P ka c) (ha : DE X W P ma a) (hb : DE X W P mb b) : DE X W P (mIf ka ma mb) (.IfExp c a b pos) :=
  fun F hF => peImp (pe_ifExp (ht F hF) (ha F hF) (hb F hF)) fun σ H Q ⟨C, ρ, R, h⟩ => ⟨C, ρ, R, (poBind h).imp fun x H1 ⟨C1, ρ1, a, s1, R1, d1, h1⟩ => by
    have d1' : x = a := d1
    subst d1'
    cases x with
    | false =>
      simp only [Bool.false_eq_true, if_false] at h1
      exact iteF ⟨C1, ρ1, R1, h1⟩
    | true =>
      simp only [if_true] at h1
      exact iteT ⟨C1, ρ1, R1, h1⟩⟩
end
/-! ### is None -/
def isNone : PyData → Bool
  | .none => true
  | _ => false
theorem isNoneOk {K : PySem.W.Frag} {C : Hp} {x : V} {d : PyData} (h : Dp K C x d) : decide (x = V.non) = isNone d := by
  cases h <;> first | rfl | (exact decide_eq_false (fun z => nomatch z))
def mIsN (ma : Mi PyData) : Mi PyData := ma.bind fun a => Mi.ret (.bool (isNone a))
def mNotN (ma : Mi PyData) : Mi PyData := ma.bind fun a => Mi.ret (.bool (!isNone a))
theorem deIsN {j p2} (ha : DE X W P ma a) : DE X W P (mIsN ma) (.Compare a [.Is] [.Constant .none j p2] pos) :=
  fun F hF => peImp (pe_cmp (pc_isN (ha F hF)) rfl) fun σ H Q ⟨C, ρ, R, h⟩ => ⟨C, ρ, R, (poBind h).imp fun x H1 ⟨C1, ρ1, a, s1, R1, d1, h1⟩ => by
    rw [isNoneOk d1]
    exact poRet h1 R1 (.bl _)⟩
theorem deNotN {j p2} (ha : DE X W P ma a) : DE X W P (mNotN ma) (.Compare a [.IsNot] [.Constant .none j p2] pos) :=
  fun F hF => peImp (pe_cmp (pc_notN (ha F hF)) rfl) fun σ H Q ⟨C, ρ, R, h⟩ => ⟨C, ρ, R, (poBind h).imp fun x H1 ⟨C1, ρ1, a, s1, R1, d1, h1⟩ => by
    rw [isNoneOk d1]
    exact poRet h1 R1 (.bl _)⟩
def tIsNM (ma : Mi PyData) : Mi Bool := ma.bind fun a => Mi.ret (isNone a)
def tNotNM (ma : Mi PyData) : Mi Bool := ma.bind fun a => Mi.ret (!isNone a)
theorem dtIsN {j p2} (ha : DE X W P ma a) : DT X W P (tIsNM ma) (.Compare a [.Is] [.Constant .none j p2] pos) :=
  fun F hF => ptImp (pt_cmp (pc_isN (ha F hF)) rfl) fun σ H Q ⟨C, ρ, R, h⟩ => ⟨C, ρ, R, (poBind h).imp fun x H1 ⟨C1, ρ1, a, s1, R1, d1, h1⟩ => by
    rw [isNoneOk d1]
    exact ⟨_, rfl, poRet h1 R1 rfl⟩⟩
theorem dtNotN {j p2} (ha : DE X W P ma a) : DT X W P (tNotNM ma) (.Compare a [.IsNot] [.Constant .none j p2] pos) :=
  fun F hF => ptImp (pt_cmp (pc_notN (ha F hF)) rfl) fun σ H Q ⟨C, ρ, R, h⟩ => ⟨C, ρ, R, (poBind h).imp fun x H1 ⟨C1, ρ1, a, s1, R1, d1, h1⟩ => by
    rw [isNoneOk d1]
    exact ⟨_, rfl, poRet h1 R1 rfl⟩⟩
/-! ### rows of expressions, displays, calls of what is built in -/
def mNil : Mi (List PyData) := Mi.ret []
def mCons (m : Mi PyData) (ms : Mi (List PyData)) : Mi (List PyData) := m.bind fun d => ms.bind fun ds => Mi.ret (d :: ds)
theorem daNil : DA X W P mNil [] := fun F _ => paImp pa_nil fun σ H Q ⟨C, ρ, R, h⟩ => poRet h R ⟨.nil, rfl⟩
theorem daCons {ms : Mi (List PyData)} (ha : DE X W P ma a) (hr : DA X W P ms es) (hs : starEach (a :: es) X.env = (false, eval a X.env) :: starEach es X.env := by rfl) : DA X W P (mCons ma ms) (a :: es) :=
  fun F hF => paImp (pa_cons (ha F hF) (hr F hF) hs) fun σ H Q ⟨C, ρ, R, h⟩ => by
    refine ⟨C, ρ, R, (poBind h).imp fun x H1 ⟨C1, ρ1, d, s1, R1, d1, h1⟩ => ⟨C1, ρ1, R1, (poBind h1).imp fun xs H2 ⟨C2, ρ2, ds, s2, R2, d2, h2⟩ => ?_⟩⟩
    exact poRet h2 R2 ⟨.cons (dpMono s2 d1) d2.1, congrArg (· + 1) d2.2⟩
/-- a written tuple: its object has no attributes -/
def tTupB (t : TA) : TE := fun σ H Q => t σ H fun xs H1 => xs.length ≤ sizeLine ∧ ∀ (p : Addr) (o : Obj), o.dict = none → H1 p = none → Q (.ref p) (upd H1 p (.frz o (.tup xs)))
theorem pe_tupB {x1} {t : TA} (h : PA X es t) : PE X (.Tuple es x1 pos) (tTupB t) := by
  refine ⟨fun pins s σ H Q I hq => ?_⟩
  refine wpAny_Tuple_spliced (thn (h.run pos pins s σ H _ I hq) fun us s1 ⟨xs, H1, I1, r, z, q⟩ => ⟨by rw [← r.length]; exact z, ?_⟩)
  have hf : H1 s1.heap.objs.size = none := I1.hok.fresh (Nat.le_refl _)
  refine ⟨.ref s1.heap.objs.size, upd H1 s1.heap.objs.size (.frz _ (.tup xs)), I1.laid (t' := s1.toks) (fun b u e => Heap.get?_push_of_some _ e) (Nat.le_refl _) ⟨Heap.get?_push_size _ rfl, z, us, r, ⟨_, Heap.get?_push_size _ rfl, rfl, _, rfl⟩⟩, rfl, q _ _ rfl hf⟩
def mTup (ms : Mi (List PyData)) : Mi PyData := ms.bind fun ds => Mi.ret (.tuple ds)
def mLst (ms : Mi (List PyData)) : Mi PyData := ms.bind fun ds => Mi.ret (.list ds)
theorem line1000 {n : Nat} (h : n ≤ 1000) : n ≤ sizeLine := Nat.le_of_lt (small1000 h)
theorem deTup {x1} {ms : Mi (List PyData)} (h : DA X W P ms es) (hl : es.length ≤ 1000 := by decide) : DE X W P (mTup ms) (.Tuple es x1 pos) :=
  fun F hF => peImp (pe_tupB (h F hF)) fun σ H Q ⟨C, ρ, R, p⟩ => ⟨C, ρ, R, (poBind p).imp fun xs H1 ⟨C1, ρ1, ds, s1, R1, d1, h1⟩ => by
    refine ⟨line1000 (by rw [dpaLen d1.1, d1.2]; exact hl), fun q o ho hq => ?_⟩
    have ex : Ext C1 H1 (upd C1 q (.frz o (.tup xs))) (upd H1 q (.frz o (.tup xs))) := Ext.put R1.ch hq (.bare ho)
    exact h1 _ _ _ ex.cc (R1.grow ex) (.tup (.inl (.inr ⟨o, upd_same⟩)) (dpaMono ex.cc d1.1))⟩
theorem deLst {ms : Mi (List PyData)} (h : DA X W P ms es) (hl : es.length ≤ 1000 := by decide) : DE X W P (mLst ms) (.List es pos) :=
  fun F hF => peImp (pe_lst (h F hF)) fun σ H Q ⟨C, ρ, R, p⟩ => ⟨C, ρ, R, (poBind p).imp fun xs H1 ⟨C1, ρ1, ds, s1, R1, d1, h1⟩ => by
    refine ⟨line1000 (by rw [dpaLen d1.1, d1.2]; exact hl), fun q hq => ?_⟩
    have ex : Ext C1 H1 (upd C1 q (.lst xs)) (upd H1 q (.lst xs)) := Ext.new R1.ch hq
    exact h1 _ _ _ ex.cc (R1.grow ex) (.lst (.inl (.inl upd_same)) (dpaMono ex.cc d1.1))⟩
/-- a built-in function or class of data -/
def rDs (f : List PyData → Option PyData) : List V → Hp → VK → Prop := fun vs H Q => ∃ C ds d, f ds = some d ∧ Same C H ∧ DpAll KD C vs ds ∧ ∀ v C' H', Ext C H C' H' → Dp KD C' v d → Q v H'
def mBlt (f : List PyData → Option PyData) (ms : Mi (List PyData)) : Mi PyData := ms.bind fun ds => Mi.opt (f ds)
theorem deB {f : List PyData → Option PyData} {ms : Mi (List PyData)} {id : String} {x : Str} {p : Pos} (hc : CallR X (.builtin id) (rDs f)) (ha : DA X W P ms (e :: es)) (hg : Gl X x) (hm : X.mg x = none) (hv : bootBuiltins x = some (.builtin id))
    (hn : x ≠ "__name__" := by decide) (hdb : (x == ("__debug__" : Str)) = false := by decide)
    (he : starEach (e :: es) X.env = (false, eval e X.env) :: starEach es X.env := by rfl) (hpl : (backTo pos (starEach es X.env)).any (·.1) = false := by rfl) : DE X W P (mBlt f ms) (.Call (.Name x p) (e :: es) [] pos) :=
  fun F hF => peImp (pe_callB hc hg hm hv (ha F hF) hn hdb he hpl) fun σ H Q ⟨C, ρ, R, h⟩ => ⟨C, ρ, R, (poBind h).imp fun xs H1 ⟨C1, ρ1, ds, s1, R1, d1, h1⟩ => by
    cases e : f ds with
    | none =>
      simp only [e, Mi.opt] at h1
      exact h1.elim
    | some d =>
      simp only [e, Mi.opt] at h1
      exact ⟨C1, ds, d, e, R1.ch, d1.1, fun v C' H' ex dv => h1 v C' H' ex.cc (R1.grow ex) dv⟩⟩
theorem deTy {f : List PyData → Option PyData} {ms : Mi (List PyData)} {T : String} {x : Str} {p : Pos} (hc : CallR X (.type T) (rDs f)) (ha : DA X W P ms (e :: es)) (hg : Gl X x) (hm : X.mg x = none) (hv : bootBuiltins x = some (.type T))
    (hn : x ≠ "__name__" := by decide) (hdb : (x == ("__debug__" : Str)) = false := by decide)
    (he : starEach (e :: es) X.env = (false, eval e X.env) :: starEach es X.env := by rfl) (hpl : (backTo pos (starEach es X.env)).any (·.1) = false := by rfl) : DE X W P (mBlt f ms) (.Call (.Name x p) (e :: es) [] pos) :=
  fun F hF => peImp (pe_callTy hc hg hm hv (ha F hF) hn hdb he hpl) fun σ H Q ⟨C, ρ, R, h⟩ => ⟨C, ρ, R, (poBind h).imp fun xs H1 ⟨C1, ρ1, ds, s1, R1, d1, h1⟩ => by
    cases e : f ds with
    | none =>
      simp only [e, Mi.opt] at h1
      exact h1.elim
    | some d =>
      simp only [e, Mi.opt] at h1
      exact ⟨C1, ds, d, e, R1.ch, d1.1, fun v C' H' ex dv => h1 v C' H' ex.cc (R1.grow ex) dv⟩⟩
end
end Dn
set_option maxHeartbeats 4000000
namespace Dn
open PySem PySem.Spec L2

/-! ## statements -/
def RvOk (N : Addr → Prop) (H0 C H : Hp) (v : V) : Rv → Prop
  | .cold d => Dp KD C v d
  | .fresh ds => ∃ p ws, v = .ref p ∧ C p = none ∧ H p = some (.lst ws) ∧ DpAll KD C ws ds ∧ H0 p = none ∧ ¬ N p
  | .tree e => ∃ A, EntAt KD C H v e A ∧ e.isHot = true ∧ ∀ b ∈ A, H0 b = none ∧ ¬ N b
def PoS (X : Cx) (F : Fr0) (W : WX) (C : Hp) (D : Ends) : Fl → Prop
  | .nx r => ∀ σ' C' H', Same C C' → RE KD F C' σ' H' r → D.nx σ' H'
  | .bk r => ∀ σ' C' H', Same C C' → RE KD F C' σ' H' r → D.bk σ' H'
  | .ct r => ∀ σ' C' H', Same C C' → RE KD F C' σ' H' r → D.ct σ' H'
  | .rt d r => ∀ v σ' C' H', Same C C' → RE KD F C' σ' H' r → RvOk (fun b => ∃ j, Own KD C' σ' H' r j b) F.H0 C' H' v d → D.rt v H'
  | .ex c w r => ∀ σ', XP X F W C σ' c w r
  | .bad => False
def tS (X : Cx) (F : Fr0) (W : WX) (s : Rho → Fl) : TS := fun D σ H => ∃ C ρ, RE KD F C σ H ρ ∧ PoS X F W C D (s ρ)
def DS (X : Cx) (W : WX) (P : Pn) (s : Rho → Fl) (st : Stmt) : Prop := ∀ F : Fr0, FOk F P → PS X st (tS X F W s)
def DSs (X : Cx) (W : WX) (P : Pn) (s : Rho → Fl) (sts : List Stmt) : Prop := ∀ F : Fr0, FOk F P → PSs X sts (tS X F W s)
def sSeq (s u : Rho → Fl) : Rho → Fl := fun r => match s r with
  | .nx r' => u r'
  | .rt d r' => .rt d r'
  | .bk r' => .bk r'
  | .ct r' => .ct r'
  | .ex c w r' => .ex c w r'
  | .bad => .bad
def sBind {α : Type} (m : Mi α) (k : α → Rho → Fl) : Rho → Fl := fun r => match m r with
  | .ok a r' => k a r'
  | .ex c w r' => .ex c w r'
  | .bad => .bad
section
variable {X : Cx} {F : Fr0} {W : WX} {C C' : Hp} {σ : L2.St} {D D' : Ends}
theorem PoS.mono {o : Fl} (h : PoS X F W C D o) (s : Same C C') : PoS X F W C' D o := by
  cases o with
  | nx r => exact fun σ' C2 H' h1 => h σ' C2 H' (s.trans h1)
  | bk r => exact fun σ' C2 H' h1 => h σ' C2 H' (s.trans h1)
  | ct r => exact fun σ' C2 H' h1 => h σ' C2 H' (s.trans h1)
  | rt d r => exact fun v σ' C2 H' h1 => h v σ' C2 H' (s.trans h1)
  | ex c w r => exact fun σ' => XP.mono (h σ') s
  | bad => exact h
theorem posBind {α β : Type} {Rel1 : L2.St → Hp → β → α → Prop} {m : Mi α} {k : α → Rho → Fl} {ρ : Rho} (h : PoS X F W C D (sBind m k ρ)) :
    Po X F W Rel1 C σ (fun b H1 => ∃ C1 ρ1 a, Same C C1 ∧ RE KD F C1 σ H1 ρ1 ∧ Rel1 σ C1 b a ∧ PoS X F W C1 D (k a ρ1)) (m ρ) := by
  unfold sBind at h
  cases e : m ρ with
  | ok a r =>
    rw [e] at h
    exact fun b C1 H1 s R d => ⟨C1, r, a, s, R, d, h.mono s⟩
  | ex c w r =>
    rw [e] at h
    exact h σ
  | bad =>
    rw [e] at h
    exact h
end
theorem psImp {X : Cx} {st : Stmt} {t t' : TS} (h : PS X st t) (i : ∀ D (σ : L2.St) H, t' D σ H → t D σ H) : PS X st t' := ⟨fun pins s σ H D I w => h.run pins s σ H D I (i D σ H w)⟩
theorem pssImp {X : Cx} {st : List Stmt} {t t' : TS} (h : PSs X st t) (i : ∀ D (σ : L2.St) H, t' D σ H → t D σ H) : PSs X st t' := ⟨fun pins s σ H D I w => h.run pins s σ H D I (i D σ H w)⟩
theorem pgImp {X : Cx} {tg : Expr} {t t' : TG} (h : PG X tg t) (i : ∀ v (σ : L2.St) H Q, t' v σ H Q → t v σ H Q) : PG X tg t' := ⟨fun pins s σ H v u Q I r w => h.run pins s σ H v u Q I r (i v σ H Q w)⟩
theorem pgsImp {X : Cx} {tg : List Expr} {t t' : TGs} (h : PGs X tg t) (i : ∀ v (σ : L2.St) H Q, t' v σ H Q → t v σ H Q) : PGs X tg t' := ⟨fun pins s σ H v u Q I r w => h.run pins s σ H v u Q I r (i v σ H Q w)⟩
theorem piImp {X : Cx} {tg it : Expr} {t t' : TI} (h : PI X tg it t) (i : ∀ (σ : L2.St) H R, t' σ H R → t σ H R) : PI X tg it t' := ⟨fun pins s σ H R I w => h.run pins s σ H R I (i σ H R w)⟩

section
variable {X : Cx} {W : WX} {P : Pn} {a b c e : Expr} {es : List Expr} {ma mb mc : Mi PyData} {pos : Pos} {st : Stmt} {sts sts2 : List Stmt} {s u : Rho → Fl}
theorem dsNil : DSs X W P (fun r => .nx r) [] := fun F _ => pssImp pss_nil fun D σ H ⟨C, ρ, R, h⟩ => h σ C H (Same.refl _) R
theorem dsOne (h : DS X W P s st) : DSs X W P s [st] := fun F hF => pss_one (h F hF)
theorem dsCons (h : DS X W P s st) (g : DSs X W P u sts) : DSs X W P (sSeq s u) (st :: sts) := fun F hF => pssImp (pss_cons (h F hF) (g F hF)) fun D σ H ⟨C, ρ, R, p⟩ => by
  refine ⟨C, ρ, R, ?_⟩
  unfold sSeq at p
  cases e : s ρ with
  | nx r =>
    rw [e] at p
    exact fun σ' C' H' h1 R' => ⟨C', r, R', p.mono h1⟩
  | bk r =>
    rw [e] at p
    exact p
  | ct r =>
    rw [e] at p
    exact p
  | rt d r =>
    rw [e] at p
    exact p
  | ex c w r =>
    rw [e] at p
    exact p
  | bad =>
    rw [e] at p
    exact p
theorem dsPass : DS X W P (fun r => .nx r) (.Pass pos) := fun F _ => psImp ps_pass fun D σ H ⟨C, ρ, R, h⟩ => h σ C H (Same.refl _) R
theorem dsBreak : DS X W P (fun r => .bk r) (.Break pos) := fun F _ => psImp ps_break fun D σ H ⟨C, ρ, R, h⟩ => h σ C H (Same.refl _) R
theorem dsCont : DS X W P (fun r => .ct r) (.Continue pos) := fun F _ => psImp ps_continue fun D σ H ⟨C, ρ, R, h⟩ => h σ C H (Same.refl _) R
def sExpr (m : Mi PyData) : Rho → Fl := sBind m fun _ r => .nx r
theorem dsExpr (h : DE X W P ma e) (hs : swapsWith e none pos.line X.env = pure false := by rfl) : DS X W P (sExpr ma) (.Expr e pos) :=
  fun F hF => psImp (ps_expr (h F hF) hs) fun D σ H ⟨C, ρ, R, p⟩ => ⟨C, ρ, R, (posBind p).imp fun x H1 ⟨C1, ρ1, d, s1, R1, d1, h1⟩ => h1 σ C1 H1 (Same.refl _) R1⟩
def sRet (m : Mi PyData) : Rho → Fl := sBind m fun d r => .rt (.cold d) r
theorem dsRet (h : DE X W P ma e) : DS X W P (sRet ma) (.Return (some e) pos) :=
  fun F hF => psImp (ps_ret (h F hF)) fun D σ H ⟨C, ρ, R, p⟩ => ⟨C, ρ, R, (posBind p).imp fun x H1 ⟨C1, ρ1, d, s1, R1, d1, h1⟩ => h1 x σ C1 H1 (Same.refl _) R1 d1⟩
theorem dsRetN : DS X W P (fun r => .rt (.cold .none) r) (.Return none pos) := fun F _ => psImp ps_retN fun D σ H ⟨C, ρ, R, h⟩ => h .non σ C H (Same.refl _) R .non
def sIf (t : Mi Bool) (s u : Rho → Fl) : Rho → Fl := sBind t fun k r => if k then s r else u r
theorem dsIf {k : Mi Bool} (h : DT X W P k c) (hs : DSs X W P s sts) (hu : DSs X W P u sts2) : DS X W P (sIf k s u) (.If c sts sts2 pos) :=
  fun F hF => psImp (ps_if (h F hF) (hs F hF) (hu F hF)) fun D σ H ⟨C, ρ, R, p⟩ => ⟨C, ρ, R, (posBind p).imp fun x H1 ⟨C1, ρ1, d, s1, R1, d1, h1⟩ => by
    have d1' : x = d := d1
    subst d1'
    cases x with
    | false =>
      simp only [Bool.false_eq_true, if_false] at h1
      exact iteF ⟨C1, ρ1, R1, h1⟩
    | true =>
      simp only [if_true] at h1
      exact iteT ⟨C1, ρ1, R1, h1⟩⟩
def sSet (i : Nat) (m : Mi PyData) : Rho → Fl := sBind m fun d r => .nx (r.set i (some (.val d)))
theorem dsSet {i : Nat} {x : Str} {pos' : Pos} (h : DE X W P ma e) (hi : i ∉ P.ps) (hp : ∀ te, PE X e te → PS X (.Assign [.Name x pos'] e pos) (tAsg te (gName i))) : DS X W P (sSet i ma) (.Assign [.Name x pos'] e pos) :=
  fun F hF => psImp (hp _ (h F hF)) fun D σ H ⟨C, ρ, R, p⟩ => ⟨C, ρ, R, (posBind p).imp fun x H1 ⟨C1, ρ1, d, s1, R1, d1, h1⟩ => h1 _ C1 H1 (Same.refl _) (R1.setVal (notPin hF hi) d1)⟩

/-! ### lists that are new -/
def PoF (X : Cx) (F : Fr0) (W : WX) (C : Hp) (σ : L2.St) (Q : VK) : Out (List PyData) → Prop
  | .ok ds r => ∀ p ws C' H', Same C C' → RE KD F C' σ H' r → C' p = none → H' p = some (.lst ws) → DpAll KD C' ws ds → (∀ j, ¬ Own KD C' σ H' r j p) → F.H0 p = none → (∀ q ∈ F.gd, q.1 ≠ p) → Q (.ref p) H'
  | .ex c w r => XP X F W C σ c w r
  | .bad => False
def tF (X : Cx) (F : Fr0) (W : WX) (m : Mi (List PyData)) : TE := fun σ H Q => ∃ C ρ, RE KD F C σ H ρ ∧ PoF X F W C σ Q (m ρ)
def DF (X : Cx) (W : WX) (P : Pn) (m : Mi (List PyData)) (e : Expr) : Prop := ∀ F : Fr0, FOk F P → PE X e (tF X F W m)
end
section
variable {X : Cx} {W : WX} {P : Pn} {a b c e : Expr} {es : List Expr} {ma mb mc : Mi PyData} {pos : Pos} {st : Stmt} {sts sts2 : List Stmt} {s u : Rho → Fl}
def mOfF (m : Mi (List PyData)) : Mi PyData := m.bind fun ds => Mi.ret (.list ds)
theorem deOfF {m : Mi (List PyData)} (h : DF X W P m e) : DE X W P (mOfF m) e := fun F hF => peImp (h F hF) fun σ H Q ⟨C, ρ, R, p⟩ => by
  refine ⟨C, ρ, R, ?_⟩
  unfold mOfF Mi.bind at p
  cases e : m ρ with
  | ok ds r =>
    simp only [e, Mi.ret] at p
    intro q ws C' H' s1 R1 hn hh hd hx h0 hg
    exact p _ _ H' (s1.trans (sameUpd hn)) (R1.cool hn hh hx h0 hg) (.lst (.inl (.inl upd_same)) (dpaMono (sameUpd hn) hd))
  | ex c w r =>
    rw [e] at p
    exact p
  | bad =>
    rw [e] at p
    exact p
theorem dfLst {ms : Mi (List PyData)} (h : DA X W P ms es) (hl : es.length ≤ 1000 := by decide) : DF X W P ms (.List es pos) :=
  fun F hF => peImp (pe_lst (h F hF)) fun σ H Q ⟨C, ρ, R, p⟩ => ⟨C, ρ, R, by
    cases e : ms ρ with
    | ok ds r =>
      rw [e] at p
      intro xs C1 H1 s1 R1 d1
      refine ⟨line1000 (by rw [dpaLen d1.1, d1.2]; exact hl), fun q hq => ?_⟩
      have hx : Same H1 (upd H1 q (.lst xs)) := sameUpd hq
      have ex : Ext C1 H1 C1 (upd H1 q (.lst xs)) := ⟨Same.refl _, R1.ch.trans hx, hx, fun _ _ _ z => z, fun h => h⟩
      have R2 : RE KD F C1 σ (upd H1 q (.lst xs)) r := R1.grow ex
      exact p q xs C1 _ s1 R2 (R1.ch.free hq) upd_same d1.1 (R1.hotNeU hq ex) (R1.h0None hq) (R1.gdNe hq)
    | ex c w r =>
      rw [e] at p
      exact p
    | bad =>
      rw [e] at p
      exact p⟩
def sSetHot (i : Nat) (m : Mi (List PyData)) : Rho → Fl := sBind m fun ds r => .nx (r.set i (some (.hot ds)))
theorem dsSetHot {i : Nat} {x : Str} {pos' : Pos} {m : Mi (List PyData)} (h : DF X W P m e) (hi : i ∉ P.ps) (hp : ∀ te, PE X e te → PS X (.Assign [.Name x pos'] e pos) (tAsg te (gName i))) : DS X W P (sSetHot i m) (.Assign [.Name x pos'] e pos) :=
  fun F hF => psImp (hp _ (h F hF)) fun D σ H ⟨C, ρ, R, p⟩ => ⟨C, ρ, R, by
    unfold sSetHot sBind at p
    cases e : m ρ with
    | ok ds r =>
      rw [e] at p
      exact fun q ws C' H' s1 R1 hn hh hd hx h0 hg => p _ C' H' s1 (R1.setHot (notPin hF hi) hn hh hd hx h0 hg)
    | ex c w r =>
      rw [e] at p
      exact p σ
    | bad =>
      rw [e] at p
      exact p⟩
/-- return [..] -/
def sRetF (m : Mi (List PyData)) : Rho → Fl := sBind m fun ds r => .rt (.fresh ds) r
theorem dsRetF {m : Mi (List PyData)} (h : DF X W P m e) : DS X W P (sRetF m) (.Return (some e) pos) :=
  fun F hF => psImp (ps_ret (h F hF)) fun D σ H ⟨C, ρ, R, p⟩ => ⟨C, ρ, R, by
    unfold sRetF sBind at p
    cases e : m ρ with
    | ok ds r =>
      rw [e] at p
      exact fun q ws C' H' s1 R1 hn hh hd hx h0 hg => p _ σ C' H' s1 R1 ⟨q, ws, rfl, hn, hh, hd, h0, fun ⟨j, hj⟩ => hx j hj⟩
    | ex c w r =>
      rw [e] at p
      exact p σ
    | bad =>
      rw [e] at p
      exact p⟩
theorem getSt {K : PySem.W.Frag} {F : Fr0} {C H : Hp} {σ : L2.St} {ρ : Rho} (R : RE K F C σ H ρ) {i : Nat} {xs : List PyData} (h : ρ[i]? = some (some (.hot xs))) : ∃ a, σ[i]? = some (some (.ref a)) := by
  obtain ⟨a, _, e, _⟩ := R.hotAt h
  exact ⟨a, e⟩
/-- xs.append(e), xs a slot's hot list -/
def hotOf (r : Rho) (i : Nat) : Option (List PyData) := match r[i]? with
  | some (some (.hot xs)) => some xs
  | _ => none
theorem hotOf_eq {r : Rho} {i : Nat} {xs : List PyData} (h : hotOf r i = some xs) : r[i]? = some (some (.hot xs)) := by
  unfold hotOf at h
  split at h
  · rename_i e
    cases h
    exact e
  · cases h
def sApp (i : Nat) (m : Mi PyData) : Rho → Fl := fun r => match hotOf r i with
  | some _ => sBind m (fun d r' => match hotOf r' i with
    | some xs => if xs.length < 16777216 then .nx (r'.set i (some (.hot (xs ++ [d])))) else .bad
    | none => .bad) r
  | none => .bad
theorem dsApp {i : Nat} {x : Str} {p1 p2 p3 : Pos} (h : DE X W P ma e)
    (hm : ∀ (t : TA), PA X [e] t → PE X (.Call (.Attribute (.Name x p1) "append" p2) [e] [] p3) (tBM X.K "list" rAppend (tVar i) t)) (hs : swapsWith (.Call (.Attribute (.Name x p1) "append" p2) [e] [] p3) none pos.line X.env = pure false := by rfl)
    (he : starEach [e] X.env = (false, eval e X.env) :: starEach [] X.env := by rfl) : DS X W P (sApp i ma) (.Expr (.Call (.Attribute (.Name x p1) "append" p2) [e] [] p3) pos) :=
  fun F hF => psImp (ps_expr (hm _ (daCons h daNil he F hF)) hs) fun D σ H ⟨C, ρ, R, p⟩ => by
    unfold sApp at p
    cases e1 : hotOf ρ i with
    | none =>
      rw [e1] at p
      exact p.elim
    | some xs0 =>
      rw [e1] at p
      obtain ⟨a, vs, ea, g1, g2, g3⟩ := R.hotAt (hotOf_eq e1)
      refine ⟨.ref a, ea, .inl ⟨rfl, vs, SqL.of g2⟩, C, ρ, R, ?_⟩
      have q := posBind (Rel1 := RelD X) (σ := σ) p
      unfold mCons Mi.bind
      cases e2 : ma ρ with
      | ex c w r =>
        rw [e2] at q
        exact q
      | bad =>
        rw [e2] at q
        exact q
      | ok d r =>
        rw [e2] at q
        intro ws C1 H1 s1 R1 dd
        obtain ⟨dd, _⟩ := dd
        cases dd with
        | cons dv dn =>
          cases dn
          rename_i v
          obtain ⟨C2, r2, d2, s2, R2, dd2, q2⟩ := q v C1 H1 s1 R1 dv
          cases e3 : hotOf r2 i with
          | none =>
            rw [e3] at q2
            exact q2.elim
          | some xs =>
            rw [e3] at q2
            by_cases hl : xs.length < 16777216
            · simp only [if_pos hl] at q2
              obtain ⟨a', vs', ea', h1, h2, h3⟩ := R2.hotAt (hotOf_eq e3)
              rw [ea] at ea'
              cases ea'
              refine ⟨a, vs', v, rfl, rfl, h2, by rw [dpaLen h3, sizeLine_eq]; exact hl, ?_⟩
              exact q2 σ C2 _ (Same.refl _) (R2.write (hotOf_eq e3) ea (dpaApp h3 (.cons dd2 .nil)))
            · simp only [if_neg hl] at q2
              exact q2.elim
/-- xs[i] = e, xs a slot's hot list -/
def sStore (i : Nat) (mi ma : Mi PyData) : Rho → Fl := sBind ma fun d r => match hotOf r i with
  | none => .bad
  | some _ => sBind mi (fun k r' => match hotOf r' i, k with
    | some xs, .int n => match ixN xs.length n with
      | some j => .nx (r'.set i (some (.hot (xs.set j d))))
      | none => .bad
    | _, _ => .bad) r
theorem dsStore {i : Nat} {x : Str} {p1 p2 : Pos} {ei : Expr} {mi : Mi PyData} (hv : PE X (.Name x p1) (tVar i)) (hi : DE X W P mi ei) (h : DE X W P ma e)
    (hs : swapsWithSole [.Subscript (.Name x p1) ei p2] e pos.line X.env = pure false := by rfl) (hw : swappedStores [.Subscript (.Name x p1) ei p2] e X.env = pure none := by rfl)
    (h1 : (assignEach [.Subscript (.Name x p1) ei p2] X.env).map (·.2) = [assign (.Subscript (.Name x p1) ei p2) X.env] := by rfl)
    (ha : ∀ v, assign (.Subscript (.Name x p1) ei p2) X.env v = (do
      let ov ← holding [v] (eval (.Name x p1) X.env)
      let iv ← holding [v, ov] (eval ei X.env)
      standAt p2
      holding [v, ov, iv] (setItem ov iv v)
      release [v, ov, iv] []) := by intro _; rfl) : DS X W P (sStore i mi ma) (.Assign [.Subscript (.Name x p1) ei p2] e pos) :=
  fun F hF => psImp (ps_asg (h F hF) (pg_sub hv (hi F hF) set_list ha) hs hw h1) fun D σ H ⟨C, ρ, R, p⟩ => by
    refine ⟨C, ρ, R, (posBind p).imp fun v H1 ⟨C1, ρ1, d, s1, R1, d1, h1⟩ => ?_⟩
    cases e1 : hotOf ρ1 i with
    | none =>
      simp only [e1] at h1
      exact h1.elim
    | some xs1 =>
      simp only [e1] at h1
      obtain ⟨a, vs, ea, _⟩ := R1.hotAt (hotOf_eq e1)
      refine ⟨.ref a, ea, C1, ρ1, R1, (posBind h1).imp fun kv H2 ⟨C3, r3, k3, s3, R3, dk3, q3⟩ => ?_⟩
      cases e4 : hotOf r3 i with
      | none =>
        simp only [e4] at q3
        exact q3.elim
      | some xs =>
        cases dk3 with
        | int n =>
          simp only [e4] at q3
          cases e5 : ixN xs.length n with
          | none =>
            simp only [e5] at q3
            exact q3.elim
          | some j =>
            simp only [e5] at q3
            obtain ⟨a', vs', ea', g1, g2, g3⟩ := R3.hotAt (hotOf_eq e4)
            rw [ea] at ea'
            cases ea'
            refine ⟨a, vs', n, j, rfl, rfl, g2, by rw [dpaLen g3]; exact e5, ?_⟩
            exact q3 σ C3 _ (Same.refl _) (R3.write (hotOf_eq e4) ea (dpaSet (dpMono s3 d1) j g3))
        | _ =>
          simp only [e4] at q3
          all_goals exact q3.elim
/-! ### targets -/
def Wip (ts : List Nat) (σ σ' : L2.St) : Prop := ∀ vs : List Nat, (∀ i ∈ ts, i ∈ vs) → wipe σ' vs = wipe σ vs
def tG (X : Cx) (F : Fr0) (ts : List Nat) (g : PyData → Rho → Option Rho) : TG := fun v σ H Q => ∃ C ρ d, RE KD F C σ H ρ ∧ Dp KD C v d ∧ match g d ρ with
  | some r => ∀ σ' C' H', Same C C' → RE KD F C' σ' H' r → Wip ts σ σ' → Q σ' H'
  | none => False
def DG (X : Cx) (P : Pn) (ts : List Nat) (g : PyData → Rho → Option Rho) (tg : Expr) : Prop := ∀ F : Fr0, FOk F P → PG X tg (tG X F ts g)
def tGs (X : Cx) (F : Fr0) (ts : List Nat) (g : List PyData → Rho → Option Rho) : TGs := fun vs σ H Q => ∃ C ρ ds, RE KD F C σ H ρ ∧ DpAll KD C vs ds ∧ match g ds ρ with
  | some r => ∀ σ' C' H', Same C C' → RE KD F C' σ' H' r → Wip ts σ σ' → Q σ' H'
  | none => False
def DGs (X : Cx) (P : Pn) (ts : List Nat) (g : List PyData → Rho → Option Rho) (tgs : List Expr) : Prop := ∀ F : Fr0, FOk F P → PGs X tgs (tGs X F ts g)
theorem wipeIn : ∀ (vs : List Nat) (σ : L2.St) (j : Nat), j ∈ vs → j < σ.length → (wipe σ vs)[j]? = some none
  | [], _, _, h, _ => by cases h
  | v :: vs, σ, j, h, hl => by
    unfold wipe
    by_cases e : v = j
    · subst e
      rw [List.getElem?_set_self (by rw [wipe_length]; exact hl)]
    · rw [List.getElem?_set_ne e]
      rcases List.mem_cons.mp h with z | z
      · exact absurd z.symm e
      · exact wipeIn vs σ j z hl
theorem wipeOut : ∀ (vs : List Nat) (σ : L2.St) (j : Nat), j ∉ vs → (wipe σ vs)[j]? = σ[j]?
  | [], _, _, _ => rfl
  | v :: vs, σ, j, h => by
    unfold wipe
    rw [List.getElem?_set_ne (fun e => h (by rw [e]; exact List.mem_cons_self))]
    exact wipeOut vs σ j fun z => h (List.mem_cons_of_mem _ z)
theorem wipeSet {σ : L2.St} {i : Nat} {o : Option V} : Wip [i] σ (σ.set i o) := fun vs hv => by
  apply List.ext_getElem?
  intro j
  by_cases hj : j ∈ vs
  · by_cases hl : j < σ.length
    · rw [wipeIn vs _ j hj (by simpa using hl), wipeIn vs _ j hj hl]
    · rw [List.getElem?_eq_none (by rw [wipe_length]; simpa using hl), List.getElem?_eq_none (by rw [wipe_length]; simpa using hl)]
  · rw [wipeOut vs _ j hj, wipeOut vs _ j hj, List.getElem?_set_ne (fun e => hj (by rw [← e]; exact hv i List.mem_cons_self))]
def gNm (i : Nat) : PyData → Rho → Option Rho := fun d r => some (r.set i (some (.val d)))
theorem dgName {i : Nat} {x : Str} (h : PG X (.Name x pos) (gName i)) (hi : i ∉ P.ps) : DG X P [i] (gNm i) (.Name x pos) := fun F hF => pgImp h fun v σ H Q ⟨C, ρ, d, R, dv, q⟩ =>
  q _ C H (Same.refl _) (R.setVal (notPin hF hi) dv) wipeSet
def gN0 : List PyData → Rho → Option Rho
  | [], r => some r
  | _ :: _, _ => none
def gCn (g : PyData → Rho → Option Rho) (gs : List PyData → Rho → Option Rho) : List PyData → Rho → Option Rho
  | [], _ => none
  | d :: ds, r => match g d r with
    | some r' => gs ds r'
    | none => none
theorem dgNil : DGs X P [] gN0 [] := fun F _ => pgsImp pgs_nil fun vs σ H Q ⟨C, ρ, ds, R, dv, q⟩ => by
  cases dv with
  | nil => exact ⟨rfl, q σ C H (Same.refl _) R fun _ _ => rfl⟩
  | cons _ _ => exact q.elim
theorem dgCons {g : PyData → Rho → Option Rho} {gs : List PyData → Rho → Option Rho} {t : Expr} {ts : List Expr} {us ws : List Nat} (h1 : DG X P us g t) (h2 : DGs X P ws gs ts)
    (hs : (assignEach (t :: ts) X.env).map (·.2) = assign t X.env :: (assignEach ts X.env).map (·.2) := by rfl) : DGs X P (us ++ ws) (gCn g gs) (t :: ts) :=
  fun F hF => pgsImp (pgs_cons (h1 F hF) (h2 F hF) hs) fun vs σ H Q ⟨C, ρ, ds, R, dv, q⟩ => by
    cases dv with
    | nil => exact q.elim
    | @cons v vs d ds dv dn =>
      refine ⟨v, vs, rfl, C, ρ, d, R, dv, ?_⟩
      unfold gCn at q
      cases e : g d ρ with
      | none =>
        simp only [e] at q
      | some r =>
        simp only [e] at q
        exact fun σ' C' H' s R' w1 => ⟨C', r, ds, R', dpaMono s dn, by
          cases e2 : gs ds r with
          | none =>
            simp only [e2] at q
          | some r2 =>
            simp only [e2] at q
            exact fun σ2 C2 H2 s2 R2 w2 => q σ2 C2 H2 (s.trans s2) R2 fun zs hz => (w2 zs fun i hi => hz i (List.mem_append_right _ hi)).trans (w1 zs fun i hi => hz i (List.mem_append_left _ hi))⟩
def gTp (n : Nat) (gs : List PyData → Rho → Option Rho) : PyData → Rho → Option Rho := fun d r => match d with
  | .tuple ds => if ds.length = n then gs ds r else none
  | _ => none
theorem dgTup {gs : List PyData → Rho → Option Rho} {ts : List Expr} {us : List Nat} {k n : Nat} (hc : X.calm = true) (h : DGs X P us gs ts) (hn : (assignEach ts X.env).length = n := by rfl) (hst : (assignEach ts X.env).findIdx? (·.1) = none := by rfl) : DG X P us (gTp n gs) (.Tuple ts k pos) :=
  fun F hF => pgImp (pg_tup hc (h F hF) hn hst) fun v σ H Q ⟨C, ρ, d, R, dv, q⟩ => by
    cases dv with
    | @tup a xs ds hs hd =>
      unfold gTp at q
      by_cases hl : ds.length = n
      · simp only [if_pos hl] at q
        exact ⟨a, xs, rfl, upT (sameT R.ch hs), (dpaLen hd).trans hl, C, ρ, ds, R, hd, q⟩
      · simp only [if_neg hl] at q
    | _ => exact q.elim
/-- target = e -/
def sAsg (g : PyData → Rho → Option Rho) (m : Mi PyData) : Rho → Fl := sBind m fun d r => match g d r with
  | some r' => .nx r'
  | none => .bad
theorem dsAsg {g : PyData → Rho → Option Rho} {tg : Expr} {us : List Nat} (h : DE X W P ma e) (hg : DG X P us g tg) (hs : swapsWithSole [tg] e pos.line X.env = pure false := by rfl) (hw : swappedStores [tg] e X.env = pure none := by rfl)
    (h1 : (assignEach [tg] X.env).map (·.2) = [assign tg X.env] := by rfl) : DS X W P (sAsg g ma) (.Assign [tg] e pos) :=
  fun F hF => psImp (ps_asg (h F hF) (hg F hF) hs hw h1) fun D σ H ⟨C, ρ, R, p⟩ => ⟨C, ρ, R, (posBind p).imp fun v H1 ⟨C1, ρ1, d, s1, R1, d1, h1⟩ => ⟨C1, ρ1, d, R1, d1, by
    cases e : g d ρ1 with
    | none =>
      simp only [e] at h1
      exact h1
    | some r =>
      simp only [e] at h1
      exact fun σ' C' H' s R' _ => h1 σ' C' H' s R'⟩⟩

/-! ### what is walked -/
structure Iters (K : PySem.W.Frag) (C : Hp) (J : It) (ds : List PyData) : Prop where
  go : ∀ (i : Nat) (d : PyData) (C2 H2 : Hp), ds[i]? = some d → Same C C2 → Same C2 H2 → J.go i H2
  yld : ∀ (i : Nat) (d : PyData) (C2 H2 : Hp) (x : V) (H3 : Hp), ds[i]? = some d → Same C C2 → Same C2 H2 → J.yld i H2 x H3 → ∃ C3, Ext C2 H2 C3 H3 ∧ Dp K C3 x d
  stop : ∀ (C2 H2 : Hp), Same C C2 → Same C2 H2 → J.stop ds.length H2
def PoI (X : Cx) (F : Fr0) (W : WX) (C : Hp) (σ : L2.St) (R : It → Hp → Prop) : Out (List PyData) → Prop
  | .ok ds r => ∃ ds' : List PyData, ds' = ds ∧ ∀ J C' H', Same C C' → RE KD F C' σ H' r → Iters KD C' J ds → R J H'
  | .ex c w r => XP X F W C σ c w r
  | .bad => False
def tI (X : Cx) (F : Fr0) (W : WX) (m : Mi (List PyData)) : TI := fun σ H R => ∃ C ρ, RE KD F C σ H ρ ∧ PoI X F W C σ R (m ρ)
def DI (X : Cx) (W : WX) (P : Pn) (m : Mi (List PyData)) (tg iter : Expr) : Prop := ∀ F : Fr0, FOk F P → PI X tg iter (tI X F W m)
theorem itersL {K : PySem.W.Frag} {C : Hp} {a : Addr} {vs : List V} {ds : List PyData} (h : SqL K C a vs) (hd : DpAll KD C vs ds) : Iters KD C (Itl K a) ds where
  go := fun i d C2 H2 e s1 s2 => by
    obtain ⟨v, ev, _⟩ := dpaGet hd e
    exact ⟨vs, v, (s1.trans s2).seq h, ev⟩
  yld := fun i d C2 H2 x H3 e s1 s2 y => by
    obtain ⟨v, ev, dv⟩ := dpaGet hd e
    obtain ⟨rfl, y⟩ := y
    have z := y vs ((s1.trans s2).seq h)
    rw [ev] at z
    cases z
    exact ⟨C2, Ext.refl s2, dpMono s1 dv⟩
  stop := fun C2 H2 s1 s2 => ⟨vs, (s1.trans s2).seq h, Nat.le_of_eq (dpaLen hd)⟩
theorem itersT {K : PySem.W.Frag} {C : Hp} {a : Addr} {vs : List V} {ds : List PyData} (h : SqT K C a vs) (hd : DpAll KD C vs ds) : Iters KD C (Itt K a) ds where
  go := fun i d C2 H2 e s1 s2 => by
    obtain ⟨v, ev, _⟩ := dpaGet hd e
    exact ⟨vs, v, sameT (s1.trans s2) h, ev⟩
  yld := fun i d C2 H2 x H3 e s1 s2 y => by
    obtain ⟨v, ev, dv⟩ := dpaGet hd e
    obtain ⟨rfl, y⟩ := y
    have z := y vs (sameT (s1.trans s2) h)
    rw [ev] at z
    cases z
    exact ⟨C2, Ext.refl s2, dpMono s1 dv⟩
  stop := fun C2 H2 s1 s2 => ⟨vs, sameT (s1.trans s2) h, Nat.le_of_eq (dpaLen hd)⟩
def ranged (lo : Int) (n : Nat) : List PyData := (List.range n).map fun (i : Nat) => PyData.int (lo + (i : Int))
theorem itersR {K : PySem.W.Frag} {C : Hp} {lo : Int} {n : Nat} : Iters K C (Itr lo n) (ranged lo n) where
  go := fun i d C2 H2 e s1 s2 => by
    have hl : i < n := by
      have z := (List.getElem?_eq_some_iff.mp e).1
      simpa [ranged] using z
    exact hl
  yld := fun i d C2 H2 x H3 e s1 s2 y => by
    have hl : i < n := by
      have z := (List.getElem?_eq_some_iff.mp e).1
      simpa [ranged] using z
    have e' : d = .int (lo + (i : Int)) := by
      have z : (ranged lo n)[i]? = some (.int (lo + (i : Int))) := by simp [ranged, hl]
      rw [z] at e
      exact (Option.some.inj e).symm
    subst e'
    obtain ⟨rfl, rfl⟩ := y
    exact ⟨C2, Ext.refl s2, .int _⟩
  stop := fun C2 H2 s1 s2 => by
    show n ≤ (ranged lo n).length
    simp [ranged]
/-- the items of data -/
def items : PyData → Option (List PyData)
  | .list xs => some xs
  | .tuple xs => some xs
  | _ => none
def mIter (m : Mi PyData) : Mi (List PyData) := m.bind fun d => Mi.opt (items d)
theorem diSeq {tg : Expr} (h : DE X W P ma e) : DI X W P (mIter ma) tg e := fun F hF => by
  have hl := pi_list (tg := tg) (h F hF)
  have ht := pi_tup (tg := tg) (h F hF)
  refine ⟨fun pins s σ H R I hw => ?_⟩
  obtain ⟨C, ρ, RR, p⟩ := hw
  unfold mIter Mi.bind at p
  cases em : ma ρ with
  | bad =>
    rw [em] at p
    exact p.elim
  | ex c w r =>
    rw [em] at p
    exact hl.run pins s σ H R I ⟨C, ρ, RR, by rw [em]; exact p⟩
  | ok d r =>
    rw [em] at p
    cases d with
    | list ds =>
      refine hl.run pins s σ H R I ⟨C, ρ, RR, ?_⟩
      rw [em]
      intro v C1 H1 s1 R1 dv
      cases dv with
      | lst hs hd =>
        obtain ⟨_, _, p⟩ := p
        exact ⟨_, rfl, ⟨_, R1.ch.seq (upL hs)⟩, p _ C1 H1 s1 R1 (itersL (upL hs) hd)⟩
    | tuple ds =>
      refine ht.run pins s σ H R I ⟨C, ρ, RR, ?_⟩
      rw [em]
      intro v C1 H1 s1 R1 dv
      cases dv with
      | tup hs hd =>
        obtain ⟨_, _, p⟩ := p
        exact ⟨_, rfl, ⟨_, sameT R1.ch (upT hs)⟩, p _ C1 H1 s1 R1 (itersT (upT hs) hd)⟩
    | _ => exact p.elim
def rng1 (ds : List PyData) : Option (List PyData) := match ds with
  | [.int n] => if 0 ≤ n ∧ n ≤ 1048576 then some (ranged 0 n.toNat) else none
  | _ => none
def mRng (f : List PyData → Option (List PyData)) (ms : Mi (List PyData)) : Mi (List PyData) := ms.bind fun ds => Mi.opt (f ds)
theorem diRng1 {tg : Expr} {ms : Mi (List PyData)} {p : Pos} (hg : Gl X "range") (hm : X.mg "range" = none) (h : DA X W P ms [a]) (hs : starEach [a] X.env = [(false, eval a X.env)] := by rfl) : DI X W P (mRng rng1 ms) tg (.Call (.Name "range" p) [a] [] pos) :=
  fun F hF => piImp (pi_range1 hg hm (h F hF) hs) fun σ H R ⟨C, ρ, RR, p⟩ => by
    refine ⟨C, ρ, RR, ?_⟩
    unfold mRng Mi.bind at p
    cases em : ms ρ with
    | bad =>
      rw [em] at p
      exact p.elim
    | ex c w r =>
      rw [em] at p
      exact p
    | ok ds r =>
      rw [em] at p
      intro vs C1 H1 s1 R1 dv
      have dv := dv.1
      cases er : rng1 ds with
      | none =>
        simp only [er, Mi.opt] at p
        exact p.elim
      | some zs =>
        simp only [er, Mi.opt] at p
        obtain ⟨_, _, p⟩ := p
        unfold rng1 at er
        split at er
        · split at er
          · rename_i hb
            cases er
            cases dv with
            | cons d1 d2 =>
              cases d1
              cases d2
              exact ⟨_, rfl, by omega, by omega, p _ C1 H1 s1 R1 itersR⟩
          · cases er
        · cases er
def rng2 (ds : List PyData) : Option (List PyData) := match ds with
  | [.int m, .int n] => if 0 ≤ m ∧ m ≤ 1048576 ∧ 0 ≤ n ∧ n ≤ 1048576 then some (ranged m (n - m).toNat) else none
  | _ => none
theorem diRng2 {tg : Expr} {ms : Mi (List PyData)} {p : Pos} (hg : Gl X "range") (hm : X.mg "range" = none) (h : DA X W P ms [a, b]) (hs : starEach [a, b] X.env = [(false, eval a X.env), (false, eval b X.env)] := by rfl) (hs2 : starEach [b] X.env = [(false, eval b X.env)] := by rfl) :
    DI X W P (mRng rng2 ms) tg (.Call (.Name "range" p) [a, b] [] pos) :=
  fun F hF => piImp (pi_range2 hg hm (h F hF) hs hs2) fun σ H R ⟨C, ρ, RR, p⟩ => by
    refine ⟨C, ρ, RR, ?_⟩
    unfold mRng Mi.bind at p
    cases em : ms ρ with
    | bad =>
      rw [em] at p
      exact p.elim
    | ex c w r =>
      rw [em] at p
      exact p
    | ok ds r =>
      rw [em] at p
      intro vs C1 H1 s1 R1 dv
      have dv := dv.1
      cases er : rng2 ds with
      | none =>
        simp only [er, Mi.opt] at p
        exact p.elim
      | some zs =>
        simp only [er, Mi.opt] at p
        obtain ⟨_, _, p⟩ := p
        unfold rng2 at er
        split at er
        · split at er
          · rename_i hb
            cases er
            cases dv with
            | cons d1 d2 =>
              cases d2 with
              | cons d2 d3 =>
                cases d1
                cases d2
                cases d3
                exact ⟨_, _, rfl, by omega, p _ C1 H1 s1 R1 itersR⟩
          · cases er
        · cases er

/-! ### for, while -/
def forL (g : PyData → Rho → Option Rho) (b : Rho → Fl) : List PyData → Rho → Fl
  | [], r => .nx r
  | d :: ds, r => match g d r with
    | none => .bad
    | some r1 => match b r1 with
      | .nx r2 => forL g b ds r2
      | .ct r2 => forL g b ds r2
      | .bk r2 => .nx r2
      | .rt d r2 => .rt d r2
      | .ex c w r2 => .ex c w r2
      | .bad => .bad
def sFor (m : Mi (List PyData)) (g : PyData → Rho → Option Rho) (b : Rho → Fl) : Rho → Fl := sBind m (forL g b)
theorem dsFor {tg it : Expr} {m : Mi (List PyData)} {g : PyData → Rho → Option Rho} (hp : PassesOwn (model X.prog X.w) X.A X.env X.xe) (hc : X.calm = true) (hi : DI X W P m tg it) {us : List Nat} (hg : DG X P us g tg) (hb : DSs X W P s sts) (hs : ∀ x, foldedSetIterable it X.env x = pure x := by intro _; rfl) :
    DS X W P (sFor m g s) (.For tg it sts [] pos) := fun F hF => psImp (ps_for hp hc (hi F hF) (hg F hF) (hb F hF) hs) fun D σ H ⟨C, ρ, R, p⟩ => by
  refine ⟨C, ρ, R, ?_⟩
  unfold sFor sBind at p
  cases em : m ρ with
  | bad =>
    rw [em] at p
    exact p.elim
  | ex c w r =>
    rw [em] at p
    exact p σ
  | ok ds r =>
    rw [em] at p
    refine ⟨ds, rfl, fun J C1 H1 s1 R1 its => ?_⟩
    refine ⟨fun i n σ2 H2 => n + i = ds.length ∧ ∃ C2 ρ2, Same C1 C2 ∧ RE KD F C2 σ2 H2 ρ2 ∧ PoS X F W C2 D (forL g s (ds.drop i) ρ2), ⟨ds.length, rfl, C1, r, Same.refl _, R1, PoS.mono p s1⟩, fun i n σ2 H2 hW => ?_⟩
    obtain ⟨hn, C2, ρ2, s2, R2, p2⟩ := hW
    by_cases hl : i < ds.length
    · refine .inr ⟨its.go i _ C2 H2 (List.getElem?_eq_getElem hl) s2 R2.ch, fun σ' H' => ∃ C3 ρ3, Same C1 C3 ∧ RE KD F C3 σ' H' ρ3 ∧ PoS X F W C3 D (forL g s (ds.drop (i + 1)) ρ3), fun σ' H' hN => ?_, fun x H3 y => ?_⟩
      · exact ⟨n - 1, by omega, by omega, hN⟩
      · obtain ⟨C3, ex, dx⟩ := its.yld i _ C2 H2 x H3 (List.getElem?_eq_getElem hl) s2 R2.ch y
        have R3 := R2.grow ex
        rw [List.drop_eq_getElem_cons hl] at p2
        unfold forL at p2
        have p3 := p2.mono ex.cc
        refine ⟨C3, ρ2, ds[i], R3, dx, ?_⟩
        cases eg : g ds[i] ρ2 with
        | none =>
          rw [eg] at p3
          exact p3
        | some r1 =>
          rw [eg] at p3
          refine fun σ4 C4 H4 s4 R4 _ => ⟨C4, r1, R4, ?_⟩
          have p4 := p3.mono s4
          simp only at p4
          cases eb : s r1 with
          | nx r2 =>
            rw [eb] at p4
            exact fun σ5 C5 H5 s5 R5 => ⟨C5, r2, (s2.trans ex.cc).trans (s4.trans s5), R5, p4.mono s5⟩
          | ct r2 =>
            rw [eb] at p4
            exact fun σ5 C5 H5 s5 R5 => ⟨C5, r2, (s2.trans ex.cc).trans (s4.trans s5), R5, p4.mono s5⟩
          | bk r2 =>
            rw [eb] at p4
            exact p4
          | rt d r2 =>
            rw [eb] at p4
            exact p4
          | ex c w r2 =>
            rw [eb] at p4
            exact p4
          | bad =>
            rw [eb] at p4
            exact p4
    · have e : i = ds.length := by omega
      subst e
      refine .inl ⟨its.stop C2 H2 s2 R2.ch, ?_⟩
      rw [List.drop_length] at p2
      exact p2 σ2 C2 H2 (Same.refl _) R2
def whileF (t : Mi Bool) (b : Rho → Fl) : Nat → Rho → Fl
  | 0 => fun _ => .bad
  | n + 1 => sBind t fun k r => if k then (match b r with
      | .nx r2 => whileF t b n r2
      | .ct r2 => whileF t b n r2
      | .bk r2 => .nx r2
      | .rt d r2 => .rt d r2
      | .ex c w r2 => .ex c w r2
      | .bad => .bad) else .nx r
theorem dsWhile {t : Mi Bool} {n : Nat} (hp : PassesOwn (model X.prog X.w) X.A X.env X.xe) (ht : DT X W P t c) (hb : DSs X W P s sts) : DS X W P (whileF t s n) (.While c sts [] pos) :=
  fun F hF => psImp (ps_while hp (ht F hF) (hb F hF)) fun D σ H ⟨C, ρ, R, p⟩ => by
    refine ⟨fun k σ2 H2 => ∃ C2 ρ2, RE KD F C2 σ2 H2 ρ2 ∧ PoS X F W C2 D (whileF t s k ρ2), ⟨n, C, ρ, R, p⟩, fun k σ2 H2 hW => ?_⟩
    obtain ⟨C2, ρ2, R2, p2⟩ := hW
    cases k with
    | zero => exact p2.elim
    | succ k =>
      unfold whileF at p2
      refine ⟨C2, ρ2, R2, (posBind p2).imp fun x H3 ⟨C3, ρ3, d, s3, R3, d3, h3⟩ => ?_⟩
      have d3' : x = d := d3
      subst d3'
      cases x with
      | false =>
        simp only [Bool.false_eq_true, if_false] at h3
        exact iteF (h3 σ2 C3 H3 (Same.refl _) R3)
      | true =>
        simp only [if_true] at h3
        refine iteT ⟨fun σ' H' => ∃ C5 ρ5, RE KD F C5 σ' H' ρ5 ∧ PoS X F W C5 D (whileF t s k ρ5), fun σ' H' z => ⟨k, Nat.lt_succ_self _, z⟩, C3, ρ3, R3, ?_⟩
        cases eb : s ρ3 with
        | nx r2 =>
          rw [eb] at h3
          exact fun σ5 C5 H5 s5 R5 => ⟨C5, r2, R5, h3.mono s5⟩
        | ct r2 =>
          rw [eb] at h3
          exact fun σ5 C5 H5 s5 R5 => ⟨C5, r2, R5, h3.mono s5⟩
        | bk r2 =>
          rw [eb] at h3
          exact h3
        | rt d r2 =>
          rw [eb] at h3
          exact h3
        | ex c w r2 =>
          rw [eb] at h3
          exact h3
        | bad =>
          rw [eb] at h3
          exact h3
end
end Dn
set_option maxHeartbeats 4000000
namespace Dn
open PySem PySem.Spec PyProof.Rows L2

/-! ## defs that run where nothing is being shown -/
structure FnG (Pg : Program) (w : World) (K : PySem.W.Frag) (mg : Str → Option Value) (base : Heap) (k : Nat) (f : Addr) (fd : FuncData) (ps : List Str) (sp : Sp) : Prop where
  len : ∀ vs H Q E, sp vs H Q E → vs.length = ps.length
  run : ∀ (A : Around) (outer : List Env) (s : Shared) (H : Hp) (args : Args) (us : List Value) (vs : List V) (Q : VK) (E : XK), A.guards = some [] → Room k A →
    Env0 Pg w K mg base A outer s H → BindsTo s fd args (ps.zip us) → Vals vs us → sp vs H Q E → codeAny (model Pg w) A (.call (.ref f) args) (CR (L2.CX Pg w) outer Pg w H s Q E) s
section
variable {Pg : Program} {w : World} {K : PySem.W.Frag} {mg : Str → Option Value} {base : Heap}
theorem fnG_of {x qual : Str} {st : Stmt} {f : Addr} {fd : FuncData} {N ps : List Str} {k : Nat} {sp : Sp} (FF : Fun K x qual st f fd) (S : FnScope N ps (defScope st)) (len : ∀ vs H Q E, sp vs H Q E → vs.length = ps.length)
    (hbody : ∀ (cdv : Value) (A : Around) (outer : List Env) (s : Shared) (H : Hp) (vs : List V) (Q : VK) (E : XK), A.guards = some [] → Room k (A.deeper (PyProof.Rows.envOfC qual (defScope st) s.heap.objs.size f cdv)) → sp vs H Q E →
      ∃ t, PSs (cxOf (L2.CX Pg w) Pg w K mg base N qual (defScope st) f cdv A outer s H E) (defBody st) t ∧ t { nx := fun _ H' => Q .non H', rt := Q } (L2.start N vs) H) :
    FnG Pg w K mg base (k + 1) f fd ps sp := by
  obtain ⟨oc, od, kV, doc, pm, an, cdv, ct, osl, rfl, lk, hcd⟩ := FF.ex
  refine ⟨len, fun A outer s H args us vs Q E hG hr e0 hb rv hsp => ?_⟩
  have kept : ∀ b o, base.get? b = some o → s.heap.get? b = some o := fun b o e => (e0.bs b o e).1
  have KX : K.In s.heap := e0.mod.kin.keeps kept
  have lim : s.heap.NoLimit := e0.mod.nolimit.keeps kept
  refine codeAny_call_function hr.depth (KX _ _ lk) rfl S.co S.gen rfl (PySem.W.codeRec_of KX hcd) (hb _ _ _ _ ?_)
  refine wpAny_newFunctionEnv_cells S.kind (fun y hy => ?_) fun env he s1 x1 => ?_
  · obtain ⟨n, u⟩ := y
    rcases S.par n (List.of_mem_zip hy).1 with q | q
    · exact Or.inl q
    · exact Or.inr ⟨q, PySem.W.cellsFrom_some _ _ _ (Or.inl q)⟩
  · subst he
    obtain ⟨t, ht, hq⟩ := hbody cdv A outer s H vs Q E hG (hr.deeper _) hsp
    have I := inv_start (CX := L2.CX Pg w) (P := Pg) (w := w) (K := K) (mg := mg) (base := base) (E := E) S hr.hd e0 (len _ _ _ _ hsp) rv x1
    refine ⟨lim.keeps x1.toInCall.keep, codeAny_func (wpAny_mono (ht.run [] s1 (L2.start N vs) H _ I hq) (fun fl s' hs => ?_) fun e s' hs => hs)⟩
    cases fl with
    | next =>
      obtain ⟨σ', H', J, q⟩ := hs
      exact ⟨V.non, H', J.os, J.bare, J.base, J.hok, rfl, q⟩
    | ret u =>
      obtain ⟨v, σ', H', J, rv', q⟩ := hs
      exact ⟨v, H', J.os, J.bare, J.base, J.hok, rv', q⟩
    | brk => exact False.elim hs.choose_spec.choose_spec.2
    | cont => exact False.elim hs.choose_spec.choose_spec.2
end
section
variable {X : Cx} {k : Nat} {f : Addr} {fd : FuncData} {ps : List Str} {sp : Sp} {E : L2.St → XK} {x : Str} {p pos : Pos} {e : Expr} {es : List Expr} {t : TA}
theorem pe_callG (FN : FnG X.prog X.w X.K X.mg X.base k f fd ps sp) (hG : X.A.guards = some []) (hr : Room k X.A) (hg : Gl X x) (hm : X.mg x = some (.ref f)) (hk : PySem.W.keepIn X.K (.ref f) = true) (hb : Binds X.K fd ps [])
    (hx : ∀ σ, PassesAt (L2.CX X.prog X.w) X σ (E σ)) (ha : PA X (e :: es) t) (hdb : (x == ("__debug__" : Str)) = false := by decide)
    (he : starEach (e :: es) X.env = (false, eval e X.env) :: starEach es X.env := by rfl) (hpl : (backTo pos (starEach es X.env)).any (·.1) = false := by rfl) : PE X (.Call (.Name x p) (e :: es) [] pos) (tCallS sp E t) := by
  constructor
  intro pins s σ H Q I hw
  apply wpAny_Call_Name_kw
  refine ld_glob I hg hm ?_ hdb
  refine PySem.W.callWith_K (h₀ := X.base) I.ok.mod.kin hk (thn (ha.run pos pins s σ H _ I hw) ?_) he hpl
  intro us s1 hq1
  obtain ⟨vs, H1, I1, rv, q⟩ := hq1
  refine ⟨I1.kIn, ?_⟩
  have hl : us.length = ps.length := rv.length.symm.trans (FN.len _ _ _ _ q)
  have bd := hb s1 us I1.kIn (by rw [List.append_nil]; exact hl)
  rw [List.append_nil] at bd
  apply wpAny_call
  refine codeAny_mono (FN.run X.A X.stack s1 H1 ⟨us, []⟩ us vs Q (E σ) hG hr I1.env0 bd rv q) ?_
  intro res s' hres
  match res, hres with
  | .error e, hres => exact hx σ pins H1 s1 e s' I1 hres
  | .ok (.ret u), hres => exact I1.after hres
  | .ok .next, hres => exact False.elim hres
  | .ok .brk, hres => exact False.elim hres
  | .ok .cont, hres => exact False.elim hres
end
/-- the call of the law itself -/
theorem lawG {Pg : Program} {w : World} {K : PySem.W.Frag} {mg mb : Str → Option Value} {k : Nat} {fa a : Addr} {fd : FuncData} {x : Str} {sp : Sp} {sh : Shared} {vs : List Value} {ns : List Int}
    (KX : K.In sh.heap) (hns : sh.heap.Ns mainGlobals mg) (hb : sh.heap.Ns builtinsNs mb) (hbb : ∀ y : Str, y ≠ "__name__" → mb y = bootBuiltins y) (hlim : sh.heap.NoLimit) (hg : sh.gens = #[])
    (ha : sh.heap.get? a = some { cls := .type "list", data := .seq vs.toArray }) (hi : IntsAre vs ns) (hl : ns.length ≤ sizeLine) (hr : Room k callerA)
    (F : ∀ base : Heap, K.In base → base.Ns mainGlobals mg → FnG Pg w K mg base k fa fd [x] sp) (hbind : ∀ (s : Shared) (u : Value), BindsTo s fd ⟨[u], []⟩ [(x, u)])
    (hsp : ∀ H : Hp, Only H → SqL K H a (ns.map V.int) → sp [.ref a] H (fun v _ => v = .bl true) fun _ _ _ => False) :
    codeAny (model Pg w) callerA (.call (.ref fa) ⟨[.ref a], []⟩) (fun r s' => r = .ok (.ret (.bool true)) ∧ OldK sh.heap s'.heap ∧ s'.os = sh.os ∧ AllBare s'.gens) sh := by
  have rv := vals_ints hi
  have lenV := hi.length
  let ob : Obj := { cls := .type "list", data := .seq vs.toArray }
  have main : ∀ H : Hp, Only H → SqL K H a (ns.map V.int) → HOk Pg w H sh.heap → (∀ b, b ≠ a → H b = none) → (∀ u, H a = some u → K.lookup a = none) →
      codeAny (model Pg w) callerA (.call (.ref fa) ⟨[.ref a], []⟩) (fun r s' => r = .ok (.ret (.bool true)) ∧ OldK sh.heap s'.heap ∧ s'.os = sh.os ∧ AllBare s'.gens) sh := by
    intro H only seq ok others own
    have stay : ∀ {b : Addr} {o : Obj}, H b = none → sh.heap.get? b = some o → (hidT sh.heap H).get? b = some o := fun n e => hidT_get e n
    have dicts : ∀ {b : Addr} {m : Str → Option Value}, sh.heap.Ns b m → (hidT sh.heap H).Ns b m := by
      rintro b m ⟨o, es, ep, e, d, r⟩
      refine ⟨o, es, ep, stay ?_ e, d, r⟩
      by_cases hba : b = a
      · rw [hba, ha] at e
        cases e
        cases d
      · exact others b hba
    have kin : K.In (hidT sh.heap H) := by
      intro b o e
      refine stay ?_ (KX b o e)
      by_cases hba : b = a
      · cases q : H b with
        | none => rfl
        | some u =>
          rw [hba] at q e
          rw [own u q] at e
          cases e
      · exact others b hba
    have md : Mod K mg (hidT sh.heap H) := by
      obtain ⟨mc, l1, l2⟩ := hlim
      exact ⟨kin, dicts hns, ⟨mb, dicts hb, hbb⟩, ⟨mc, dicts l1, l2⟩⟩
    have e0 : Env0 Pg w K mg (hidT sh.heap H) callerA [] sh H :=
      { frames := rfl, mod := md, «bs» := fun b o => of_hidT, bsz := Nat.le_of_eq (hidT_size _ _), funs := trivial, frf := fun b hb' => (by cases hb'), hok := ok, bare := .of_eq hg }
    refine codeAny_mono ((F _ kin (dicts hns)).run callerA [] sh H ⟨[.ref a], []⟩ [.ref a] [.ref a] _ _ rfl hr e0 (hbind sh (.ref a)) (.cons rfl .nil) (hsp H only seq)) ?_
    intro res s' hres
    match res, hres with
    | .error e, hres =>
      obtain ⟨_, _, _, _, _, _, _, _, _, _, _, _, z⟩ := hres
      exact z.elim
    | .ok .next, hres => exact False.elim hres
    | .ok .brk, hres => exact False.elim hres
    | .ok .cont, hres => exact False.elim hres
    | .ok (.ret u), hres =>
      obtain ⟨v, H', os, bare, un, ok', rel, q⟩ := hres
      have ev : v = .bl true := q
      subst ev
      have eu : u = Value.bool true := rel
      subst eu
      refine ⟨rfl, OldK.of_keep ?_, os, bare⟩
      intro b o e
      rcases only b with n | ⟨o2, xs, z⟩
      · exact un.keep b o e n (fun y => by cases y) (fun y => by cases y)
      · have z2 := un.frzs b o2 _ z
        have e1 := (ok b _ z).1
        have e2 := (ok' b _ z2).1
        rw [e] at e1
        cases e1
        exact e2
  cases hk : K.lookup a with
  | none =>
    have at_ : ∀ b u, (fun b => if b = a then some (HO.frz ob (.lst (ns.map V.int))) else none : Hp) b = some u → b = a ∧ u = .frz ob (.lst (ns.map V.int)) := by
      intro b u z
      by_cases hba : b = a
      · have z' := (if_pos hba).symm.trans z
        cases z'
        exact ⟨hba, rfl⟩
      · have z' := (if_neg hba).symm.trans z
        cases z'
    refine main (fun b => if b = a then some (HO.frz ob (.lst (ns.map V.int))) else none) (fun b => ?_) (Or.inl (Or.inr ⟨ob, if_pos rfl⟩)) (fun b u z => ?_) (fun b hba => if_neg hba) fun _ _ => hk
    · by_cases hba : b = a
      · exact Or.inr ⟨_, _, if_pos hba⟩
      · exact Or.inl (if_neg hba)
    · obtain ⟨rfl, rfl⟩ := at_ b u z
      exact ⟨ha, by rw [List.length_map]; exact hl, vs, _, rv, ha⟩
  | some o =>
    have e := KX a o hk
    rw [ha] at e
    cases e
    refine main (fun _ => none) (fun _ => Or.inl rfl) (Or.inr ⟨ob, vs.toArray, _, hk, rfl, rfl, rfl, ?_, by simpa using rv⟩) ?_ (fun _ _ => rfl) ?_
    · rw [List.size_toArray, lenV]
      exact hl
    · intro b u z
      cases z
    · intro u z
      cases z
theorem walkG {l : PySem.W.OpenLaw} {n k : Nat} {q : Program} {loose : List Str} {XP : (Str → Option Value) → Heap → Prop} {YP : World → Heap → Prop} {d : DefRec} {K : Params → PySem.W.Frag} {sp : World → Sp} {x : Str}
    (hn : l.most = some n) (hn2 : n ≤ sizeLine) (hdf : d.params.defaults = []) (hr : Room k callerA) (hY : ∀ (w : World) (h : Heap), YP w h → (K w.params).In h)
    (F : ∀ (w : World) (mg : Str → Option Value) (fa : Addr) (h : Heap), (K w.params).In h → h.Ns mainGlobals mg → mg d.name = some (.ref fa) →
      ∃ fd : FuncData, (∀ (s : Shared) (u : Value), BindsTo s fd ⟨[u], []⟩ [(x, u)]) ∧ ∀ base : Heap, (K w.params).In base → base.Ns mainGlobals mg → FnG l.prog w (K w.params) mg base k fa fd [x] (sp w))
    (hsp : ∀ (w : World) (H : Hp) (a : Addr) (ns : List Int), ns.length ≤ n → Only H → SqL (K w.params) H a (ns.map V.int) → sp w [.ref a] H (fun v _ => v = .bl true) fun _ _ _ => False) :
    PySem.W.WalkO q loose XP YP l.row.toRowW d [] (fun f vs => PySem.call f vs) := by
  apply Att.attach_call hn hdf
  intro w s₀ sh mg mb fa o pm cd doc a vs ns G Y _ _ _ hmg hobj hints hlen hgn
  have KX := hY w _ Y
  obtain ⟨fd, hbd, hF⟩ := F w mg fa _ KX G.T.g hmg
  exact lawG KX G.T.g G.T.b G.T.builtins G.T.nolimit hgn hobj hints (Nat.le_trans hlen hn2) hr hF hbd (fun H hO hS => hsp w H a ns hlen hO hS)
end Dn
set_option maxHeartbeats 4000000
namespace Dn
open PySem PySem.Spec L2

/-! ## calls of the program's own defs -/
theorem pairGet {α β : Type} {R : α → β → Prop} : ∀ {xs : List α} {ys : List β} {k : Nat} {x : α}, Paired R xs ys → xs[k]? = some x → ∃ y, ys[k]? = some y ∧ R x y
  | _, _, _, _, .nil, e => by simp at e
  | _, _, 0, _, .cons r _, e => by
    simp at e
    subst e
    exact ⟨_, rfl, r⟩
  | _, _, k + 1, x, .cons _ t, e => by
    obtain ⟨y, h1, h2⟩ := pairGet (k := k) (x := x) t (by simpa using e)
    exact ⟨y, by simpa using h1, h2⟩
theorem pairGet2 {α β : Type} {R : α → β → Prop} : ∀ {xs : List α} {ys : List β} {k : Nat} {y : β}, Paired R xs ys → ys[k]? = some y → ∃ x, xs[k]? = some x ∧ R x y
  | _, _, _, _, .nil, e => by simp at e
  | _, _, 0, _, .cons r _, e => by
    simp at e
    subst e
    exact ⟨_, rfl, r⟩
  | _, _, k + 1, y, .cons _ t, e => by
    obtain ⟨x, h1, h2⟩ := pairGet2 (k := k) (y := y) t (by simpa using e)
    exact ⟨x, by simpa using h1, h2⟩
theorem pairLen {α β : Type} {R : α → β → Prop} : ∀ {xs : List α} {ys : List β}, Paired R xs ys → xs.length = ys.length
  | _, _, .nil => rfl
  | _, _, .cons _ t => congrArg (· + 1) (pairLen t)
theorem pairImp {α β : Type} {R S : α → β → Prop} (h : ∀ x y, R x y → S x y) : ∀ {xs : List α} {ys : List β}, Paired R xs ys → Paired S xs ys
  | _, _, .nil => .nil
  | _, _, .cons r t => .cons (h _ _ r) (pairImp h t)

theorem pairGetB {α β : Type} {R : α → β → Prop} {xs : List α} {ys : List β} (h : Paired R xs ys) {k : Nat} {x : α} {y : β} (h1 : xs[k]? = some x) (h2 : ys[k]? = some y) : R x y := by
  obtain ⟨z, e, r⟩ := pairGet h h1
  rw [h2] at e
  cases e
  exact r
theorem memAt {α : Type} {xs : List α} {x : α} (h : x ∈ xs) : ∃ k : Nat, xs[k]? = some x := by
  obtain ⟨k, hk, ek⟩ := List.getElem_of_mem h
  exact ⟨k, by rw [List.getElem?_eq_getElem hk, ek]⟩
structure CallExt (K : PySem.W.Frag) (T : List (Addr × Str)) (C H C' H' : Hp) (as : List (List Addr)) (outs : List Ent) : Prop where
  cc : Same C C'
  ch : Same C' H'
  fr : ∀ b o, H b = some o → C b = none → C' b = none ∧ (∃ o', H' b = some o') ∧ ((∀ A ∈ as, b ∉ A) → (∀ ps, o ≠ .tbl ps) → H' b = some o)
  tabs : LamX.Tabs T H'
  tabC : ColdOk C'
  out : Paired (fun (A : List Addr) (e : Ent) => e.isHot = true ∧ ∃ a B A', A = a :: B ∧ EntAt K C' H' (.ref a) e A' ∧ ∀ b ∈ A', b ∈ A ∨ H b = none) as outs
  dj : ∀ (k k' : Nat) (a a' : Addr) (B B' D D' : List Addr) (e e' : Ent) (b : Addr), as[k]? = some (a :: B) → as[k']? = some (a' :: B') → outs[k]? = some e → outs[k']? = some e' → EntAt K C' H' (.ref a) e D → EntAt K C' H' (.ref a') e' D' → b ∈ D → b ∈ D' → k = k'

def upHot (r : Rho) : List Nat → List Ent → Rho
  | i :: is, e :: es => upHot (r.set i (some e)) is es
  | _, _ => r
theorem upHot_len : ∀ (is : List Nat) (outs : List Ent) (r : Rho), (upHot r is outs).length = r.length
  | [], _, _ => rfl
  | _ :: _, [], _ => rfl
  | i :: is, xs :: xss, r => by
    unfold upHot
    rw [upHot_len is xss]
    simp
theorem upHot_out : ∀ (is : List Nat) (outs : List Ent) (r : Rho) (j : Nat), j ∉ is → (upHot r is outs)[j]? = r[j]?
  | [], _, _, _, _ => rfl
  | _ :: _, [], _, _, _ => rfl
  | i :: is, xs :: xss, r, j, h => by
    unfold upHot
    rw [upHot_out is xss _ j (fun z => h (List.mem_cons_of_mem _ z)), List.getElem?_set_ne (fun z => h (by rw [z]; exact List.mem_cons_self))]
theorem upHot_in : ∀ (is : List Nat) (outs : List Ent) (r : Rho) (k j : Nat) (e : Ent), is.Nodup → is[k]? = some j → outs[k]? = some e → j < r.length → (upHot r is outs)[j]? = some (some e)
  | [], _, _, _, _, _, _, h, _, _ => by simp at h
  | _ :: _, [], _, _, _, _, _, _, h, _ => by simp at h
  | i :: is, ys :: xss, r, 0, j, xs, nd, h1, h2, hl => by
    have e1 : i = j := by simpa using h1
    have e2 : ys = xs := by simpa using h2
    subst e1 e2
    have n := List.nodup_cons.mp nd
    unfold upHot
    rw [upHot_out is xss _ i n.1, List.getElem?_set_self hl]
  | i :: is, ys :: xss, r, k + 1, j, xs, nd, h1, h2, hl => by
    have n := List.nodup_cons.mp nd
    unfold upHot
    exact upHot_in is xss _ k j xs n.2 (by simpa using h1) (by simpa using h2) (by simpa using hl)
/-- hot slots, their addresses -/
abbrev HotAs (K : PySem.W.Frag) (C : Hp) (σ : L2.St) (H : Hp) (ρ : Rho) : List Nat → List (List Addr) → Prop :=
  Paired fun (i : Nat) (A : List Addr) => ∃ e v, ρ[i]? = some (some e) ∧ e.isHot = true ∧ σ[i]? = some (some v) ∧ EntAt K C H v e A
theorem RE.call {K : PySem.W.Frag} {F : Fr0} {C H C' H' : Hp} {σ : L2.St} {ρ : Rho} {as : List (List Addr)} {outs : List Ent} {is : List Nat} (R : RE K F C σ H ρ) (x : CallExt K F.tb C H C' H' as outs) (nd : is.Nodup)
    (hp : HotAs K C σ H ρ is as) : RE K F C' σ H' (upHot ρ is outs) := by
  -- a slot of the call
  have inn : ∀ (j : Nat), j ∈ is → ∃ (k : Nat) (a : Addr) (B A' : List Addr) (e : Ent), is[k]? = some j ∧ as[k]? = some (a :: B) ∧ outs[k]? = some e ∧ e.isHot = true ∧ (upHot ρ is outs)[j]? = some (some e) ∧ σ[j]? = some (some (.ref a)) ∧ EntAt K C' H' (.ref a) e A' ∧
      (∀ b ∈ A', b ∈ a :: B ∨ H b = none) ∧ ∀ b ∈ a :: B, Own K C σ H ρ j b := fun j hj => by
    obtain ⟨k, ek⟩ := memAt hj
    obtain ⟨A, e2, e0, v, g1, g2, g3, g4⟩ := pairGet hp ek
    obtain ⟨e, e5, hh, a, B, A', hA, f1, f2⟩ := pairGet x.out e2
    obtain ⟨a', B', hv, hA2⟩ := g4.root g2
    subst hv
    have hA3 := hA.symm.trans hA2
    simp only [List.cons.injEq] at hA3
    obtain ⟨z1, z2⟩ := hA3
    subst z1 z2 hA
    exact ⟨k, a, B, A', e, ek, e2, e5, hh, upHot_in is outs ρ k j e nd ek e5 (R.lt g1), g3, f1, f2, fun b hb => ⟨e0, .ref a, _, g1, g3, g4, hb⟩⟩
  have ofAs : ∀ A ∈ as, ∀ b ∈ A, ∃ j ∈ is, Own K C σ H ρ j b := fun A hA b hb => by
    obtain ⟨k, ek⟩ := memAt hA
    obtain ⟨j, e1, e0, v, g1, g2, g3, g4⟩ := pairGet2 hp ek
    exact ⟨j, List.mem_of_getElem? e1, e0, v, A, g1, g3, g4, hb⟩
  have keep : ∀ j, j ∉ is → ∀ b, Own K C σ H ρ j b → C' b = none ∧ H' b = H b := fun j hj b hb => by
    obtain ⟨h1, o, h2, h3⟩ := hb.mem
    obtain ⟨f1, _, f3⟩ := x.fr b o h2 h1
    refine ⟨f1, (f3 (fun A hA hbA => ?_) h3).trans h2.symm⟩
    obtain ⟨j', hj', hb'⟩ := ofAs A hA b hbA
    have z := R.inj j j' b hb hb'
    subst z
    exact hj hj'
  have cs : ∀ (j : Nat) (b : Addr), Own K C' σ H' (upHot ρ is outs) j b → (j ∉ is ∧ Own K C σ H ρ j b) ∨ (j ∈ is ∧ (Own K C σ H ρ j b ∨ H b = none)) := fun j b ⟨e, v, A, h1, h2, h3, h4⟩ => by
    by_cases hj : j ∈ is
    · obtain ⟨k, a, B, A', e', _, _, _, _, q1, q2, q3, q4, q5⟩ := inn j hj
      rw [q1] at h1
      cases h1
      rw [q2] at h2
      cases h2
      have z := q3.det h3
      subst z
      rcases q4 b h4 with w | w
      · exact .inr ⟨hj, .inl (q5 b w)⟩
      · exact .inr ⟨hj, .inr w⟩
    · rw [upHot_out is outs ρ j hj] at h1
      exact .inl ⟨hj, Own.back R x.cc h1 h2 (keep j hj) h3 h4⟩
  have noOld : ∀ (j : Nat) (b : Addr), Own K C σ H ρ j b → H b ≠ none := fun j b h z => by
    obtain ⟨_, o, h2, _⟩ := h.mem
    rw [h2] at z
    cases z
  refine R.step x.cc x.ch (by rw [upHot_len]; exact R.len) (fun b o h1 h2 _ => ?_) (fun j e h => ?_) (fun j b h => ?_) (fun i j b h1 h2 => ?_) (fun p hp' => ?_) (fun q hq h1 h2 h3 h4 => ?_) x.tabs x.tabC (fun q _ => rfl)
  · obtain ⟨f1, f2, f3⟩ := x.fr b o h1 h2
    refine ⟨f1, f2, fun n nt => f3 (fun A hA hb => ?_) nt⟩
    obtain ⟨j, _, hj⟩ := ofAs A hA b hb
    exact n j hj
  · by_cases hj : j ∈ is
    · obtain ⟨k, a, B, A', e', _, _, _, _, q1, q2, q3, _⟩ := inn j hj
      rw [q1] at h
      cases h
      exact ⟨_, _, q2, q3⟩
    · rw [upHot_out is outs ρ j hj] at h
      obtain ⟨v, A, h1, h2⟩ := R.sl j e h
      exact ⟨v, A, h1, h2.loc x.cc fun b hb => keep j hj b ⟨e, v, A, h, h1, h2, hb⟩⟩
  · rcases cs j b h with ⟨_, z⟩ | ⟨_, z | z⟩
    · exact .inl z
    · exact .inl z
    · exact .inr ⟨R.h0None z, R.gdNe z⟩
  · rcases cs i b h1 with ⟨n1, z1⟩ | ⟨n1, z1⟩ <;> rcases cs j b h2 with ⟨n2, z2⟩ | ⟨n2, z2⟩
    · exact R.inj i j b z1 z2
    · rcases z2 with z2 | z2
      · exact R.inj i j b z1 z2
      · exact absurd z2 (noOld i b z1)
    · rcases z1 with z1 | z1
      · exact R.inj i j b z1 z2
      · exact absurd z1 (noOld j b z2)
    · obtain ⟨k, a, B, A', e', q0, q1, q2, _, q3, q4, q5, _⟩ := inn i n1
      obtain ⟨k', a', B', D', e'', p0, p1, p2, _, p3, p4, p5, _⟩ := inn j n2
      obtain ⟨x1, x2, x3, y1, y2, y3, y4⟩ := h1
      obtain ⟨u1, u2, u3, w1, w2, w3, w4⟩ := h2
      rw [q3] at y1
      cases y1
      rw [q4] at y2
      cases y2
      rw [p3] at w1
      cases w1
      rw [p4] at w2
      cases w2
      have z := x.dj k k' a a' B B' x3 u3 _ _ b q1 p1 q2 p2 y3 w3 y4 w4
      subst z
      rw [q0] at p0
      exact Option.some.inj p0
  · refine ⟨rfl, ?_⟩
    by_cases hj : p.1 ∈ is
    · obtain ⟨k, a, B, A', e', _, _, _, q0, q1, _⟩ := inn p.1 hj
      exact ⟨e', q1, q0⟩
    · obtain ⟨a, B, e, _, _, h3, h4⟩ := R.pin p hp'
      exact ⟨e, by rw [upHot_out is outs ρ p.1 hj]; exact h3, h4⟩
  · obtain ⟨f1, _, f3⟩ := x.fr q.1 _ h2 h1
    refine ⟨f1, f3 (fun A hA hb => ?_) h4⟩
    obtain ⟨j, _, hj⟩ := ofAs A hA q.1 hb
    exact h3 j hj

inductive AEnt where
  | d (x : PyData)
  | h (i : Nat)
inductive FO where
  | rt (d : Rv) (outs : List Ent)
  | ex (c : Str) (w : PyData) (outs : List Ent)
  | bad
def argOk (K : PySem.W.Frag) (σ : L2.St) (C : Hp) (v : V) : AEnt → Prop
  | .d x => Dp K C v x
  | .h i => σ[i]? = some (some v)
def RelA (X : Cx) (n : Nat) : L2.St → Hp → List V → List AEnt → Prop := fun σ C vs as => Paired (argOk KD σ C) vs as ∧ as.length = n
def DArgs (X : Cx) (W : WX) (P : Pn) (m : Mi (List AEnt)) (es : List Expr) : Prop := ∀ F : Fr0, FOk F P → PA X es (tM X F W (RelA X es.length) m)
/-- what is hot in a slot -/
def hotE (r : Rho) (i : Nat) : Option Ent := match r[i]? with
  | some (some e) => if e.isHot then some e else none
  | _ => none
theorem hotE_eq {r : Rho} {i : Nat} {e : Ent} (h : hotE r i = some e) : r[i]? = some (some e) ∧ e.isHot = true := by
  unfold hotE at h
  split at h
  · rename_i e' he
    by_cases hh : e'.isHot = true
    · rw [if_pos hh] at h
      cases h
      exact ⟨he, hh⟩
    · rw [if_neg hh] at h
      cases h
  · cases h
theorem hotE_of {r : Rho} {i : Nat} {e : Ent} (h : r[i]? = some (some e)) (hh : e.isHot = true) : hotE r i = some e := by
  unfold hotE
  rw [h]
  exact if_pos hh
def aNil : Mi (List AEnt) := Mi.ret []
def aVal (m : Mi PyData) (ms : Mi (List AEnt)) : Mi (List AEnt) := m.bind fun d => ms.bind fun as => Mi.ret (.d d :: as)
def aHot (i : Nat) (ms : Mi (List AEnt)) : Mi (List AEnt) := fun r => match hotE r i with
  | some _ => (ms.bind fun as => Mi.ret (.h i :: as)) r
  | none => .bad
theorem argMono {K : PySem.W.Frag} {σ : L2.St} {C C' : Hp} (s : Same C C') {v : V} {a : AEnt} (h : argOk K σ C v a) : argOk K σ C' v a := by
  cases a with
  | d x => exact dpMono s h
  | h i => exact h
theorem RE.stAt {K : PySem.W.Frag} {F : Fr0} {C H : Hp} {σ : L2.St} {ρ : Rho} (R : RE K F C σ H ρ) {i : Nat} {e : Ent} (h : ρ[i]? = some (some e)) (hh : e.isHot = true) : ∃ a A, σ[i]? = some (some (.ref a)) ∧ EntAt K C H (.ref a) e A := by
  obtain ⟨v, A, h1, h2⟩ := R.sl i e h
  obtain ⟨a, B, rfl, _⟩ := h2.root hh
  exact ⟨a, A, h1, h2⟩
section
variable {X : Cx} {W : WX} {P : Pn} {a b c e : Expr} {es : List Expr} {ma mb mc : Mi PyData} {pos : Pos}
theorem agNil : DArgs X W P aNil [] := fun F _ => paImp pa_nil fun σ H Q ⟨C, ρ, R, h⟩ => poRet h R ⟨.nil, rfl⟩
theorem agVal {ms : Mi (List AEnt)} (ha : DE X W P ma a) (hr : DArgs X W P ms es) (hs : starEach (a :: es) X.env = (false, eval a X.env) :: starEach es X.env := by rfl) : DArgs X W P (aVal ma ms) (a :: es) :=
  fun F hF => paImp (pa_cons (ha F hF) (hr F hF) hs) fun σ H Q ⟨C, ρ, R, h⟩ => by
    refine ⟨C, ρ, R, (poBind h).imp fun x H1 ⟨C1, ρ1, d, s1, R1, d1, h1⟩ => ⟨C1, ρ1, R1, (poBind h1).imp fun xs H2 ⟨C2, ρ2, ds, s2, R2, d2, h2⟩ => ?_⟩⟩
    exact poRet h2 R2 ⟨.cons (dpMono s2 d1) d2.1, congrArg (· + 1) d2.2⟩
theorem agHot {i : Nat} {x : Str} {p : Pos} {ms : Mi (List AEnt)} (hv : PE X (.Name x p) (tVar i)) (hr : DArgs X W P ms es) (hs : starEach ((.Name x p) :: es) X.env = (false, eval (.Name x p) X.env) :: starEach es X.env := by rfl) : DArgs X W P (aHot i ms) ((.Name x p) :: es) :=
  fun F hF => paImp (pa_cons hv (hr F hF) hs) fun σ H Q ⟨C, ρ, R, h⟩ => by
    unfold aHot at h
    cases e1 : hotE ρ i with
    | none =>
      rw [e1] at h
      exact h.elim
    | some en =>
      rw [e1] at h
      obtain ⟨g1, g2⟩ := hotE_eq e1
      obtain ⟨ad, A, ea, _⟩ := R.stAt g1 g2
      refine ⟨.ref ad, ea, C, ρ, R, (poBind h).imp fun us H2 ⟨C2, ρ2, ds, s2, R2, d2, h2⟩ => ?_⟩
      exact poRet h2 R2 ⟨.cons ea d2.1, congrArg (· + 1) d2.2⟩
end
def entsOf : List AEnt → Rho → Option (List Ent)
  | [], _ => some []
  | .d x :: as, r => (entsOf as r).map (Ent.val x :: ·)
  | .h i :: as, r => match hotE r i with
    | some e => (entsOf as r).map (e :: ·)
    | none => none
def hix : List AEnt → List Nat
  | [] => []
  | .d _ :: as => hix as
  | .h i :: as => i :: hix as
/-- the arguments stand for entities; what the hot ones have -/
inductive EntsAt (K : PySem.W.Frag) (C H : Hp) : List V → List Ent → List (List Addr) → Prop where
  | nil : EntsAt K C H [] [] []
  | val {v : V} {d : PyData} {vs : List V} {es : List Ent} {As : List (List Addr)} : Dp K C v d → EntsAt K C H vs es As → EntsAt K C H (v :: vs) (.val d :: es) As
  | hot {v : V} {e : Ent} {A : List Addr} {vs : List V} {es : List Ent} {As : List (List Addr)} : e.isHot = true → EntAt K C H v e A → EntsAt K C H vs es As → EntsAt K C H (v :: vs) (e :: es) (A :: As)
def Apart (As : List (List Addr)) : Prop := ∀ (k k' : Nat) (A A' : List Addr) (b : Addr), As[k]? = some A → As[k']? = some A' → b ∈ A → b ∈ A' → k = k'
/-- an address of what a call hands back through its arguments -/
def Taken (K : PySem.W.Frag) (C' H' : Hp) (as : List (List Addr)) (outs : List Ent) (b : Addr) : Prop := ∃ (k : Nat) (a : Addr) (B D : List Addr) (e : Ent), as[k]? = some (a :: B) ∧ outs[k]? = some e ∧ EntAt K C' H' (.ref a) e D ∧ b ∈ D
def spM (T : List (Addr × Str)) (mg : Str → Option Value) (n : Nat) (fm : List Ent → FO) : Sp := fun vs H Q E => vs.length = n ∧ ∃ C es As, Same C H ∧ LamX.Tabs T H ∧ ColdOk C ∧ EntsAt KD C H vs es As ∧ Apart As ∧ match fm es with
  | .rt d outs => ∀ v C' H', CallExt KD T C H C' H' As outs → RvOk (Taken KD C' H' As outs) H C' H' v d → Q v H'
  | .ex c w outs => ∀ A dd v C' H', mg c = some (.ref A) → CallExt KD T C H C' H' As outs → C' dd = some (xw dd v) → Dp KD C' v w → E (.ref A) (some dd) H'
  | .bad => False
/-- what comes back from a call, looked at as a value -/
def rvD : Rv → Option PyData
  | .cold d => some d
  | .fresh ds => some (.list ds)
  | .tree (.hotLL xss) => some (.list (xss.map .list))
  | .tree _ => none
def mCall (fm : List Ent → FO) (ms : Mi (List AEnt)) : Mi PyData := ms.bind fun as r => match entsOf as r with
  | none => .bad
  | some es => if (hix as).Nodup then (match fm es with
      | .rt d outs => (match rvD d with
        | some x => .ok x (upHot r (hix as) outs)
        | none => .bad)
      | .ex c w outs => .ex c w (upHot r (hix as) outs)
      | .bad => .bad) else .bad
/-- a def of the program: where it stands, what it is worth -/
structure Dfn (Pg : Program) (w : World) (K : PySem.W.Frag) (mg : Str → Option Value) (base : Heap) (T : List (Addr × Str)) (k : Nat) (x : Str) (n : Nat) (fm : List Ent → FO) : Prop where
  ex : ∃ (f : Addr) (fd : FuncData) (ps : List Str), mg x = some (.ref f) ∧ PySem.W.keepIn K (.ref f) = true ∧ Binds K fd ps [] ∧ FnG Pg w K mg base k f fd ps (spM T mg n fm)
theorem entsOk {K : PySem.W.Frag} {F : Fr0} {C H : Hp} {σ : L2.St} {ρ : Rho} (R : RE K F C σ H ρ) : ∀ {vs : List V} {as : List AEnt} {es : List Ent}, Paired (argOk K σ C) vs as → entsOf as ρ = some es →
    ∃ As, EntsAt K C H vs es As ∧ HotAs K C σ H ρ (hix as) As
  | _, _, _, .nil, e => by
    simp only [entsOf, Option.some.injEq] at e
    subst e
    exact ⟨[], .nil, .nil⟩
  | _, .d x :: as, es, .cons (a := v) (l₁ := vs) r t, e => by
    simp only [entsOf, Option.map_eq_some_iff] at e
    obtain ⟨es', e1, rfl⟩ := e
    obtain ⟨As, h1, h2⟩ := entsOk R t e1
    exact ⟨As, .val r h1, h2⟩
  | _, .h i :: as, es, .cons (a := v) (l₁ := vs) r t, e => by
    unfold entsOf at e
    cases e0 : hotE ρ i with
    | none =>
      rw [e0] at e
      cases e
    | some en =>
      rw [e0] at e
      simp only [Option.map_eq_some_iff] at e
      obtain ⟨es', e1, rfl⟩ := e
      obtain ⟨As, h1, h2⟩ := entsOk R t e1
      obtain ⟨g1, g2⟩ := hotE_eq e0
      obtain ⟨ad, A, ea, g3⟩ := R.stAt g1 g2
      have r' : σ[i]? = some (some v) := r
      rw [ea] at r'
      cases r'
      exact ⟨A :: As, .hot g2 g3 h1, .cons ⟨en, .ref ad, g1, g2, ea, g3⟩ h2⟩
theorem apartAd {K : PySem.W.Frag} {F : Fr0} {C H : Hp} {σ : L2.St} {ρ : Rho} (R : RE K F C σ H ρ) {is : List Nat} {As : List (List Addr)} (h : HotAs K C σ H ρ is As) (nd : is.Nodup) : Apart As := fun k k' A A' b h1 h2 b1 b2 => by
  obtain ⟨i, e1, e, v, g1, g2, g3, g4⟩ := pairGet2 h h1
  obtain ⟨j, e2, e', v', f1, f2, f3, f4⟩ := pairGet2 h h2
  have z := R.inj i j b ⟨e, v, A, g1, g3, g4, b1⟩ ⟨e', v', A', f1, f3, f4, b2⟩
  subst z
  exact nd_ix nd e1 e2
/-- what is put away -/
def coolC (C H : Hp) (A : List Addr) : Hp := fun b => if b ∈ A then H b else C b
theorem coolC_in {C H : Hp} {A : List Addr} {b : Addr} (h : b ∈ A) : coolC C H A b = H b := if_pos h
theorem coolC_out {C H : Hp} {A : List Addr} {b : Addr} (h : b ∉ A) : coolC C H A b = C b := if_neg h
theorem coolC_same {C H : Hp} {A : List Addr} (h : ∀ b ∈ A, C b = none) : Same C (coolC C H A) := fun b o e => by
  rw [coolC_out (fun z => by rw [h b z] at e; cases e)]
  exact e
theorem coolC_same2 {C H : Hp} {A : List Addr} (s : Same C H) : Same (coolC C H A) H := fun b o e => by
  by_cases hb : b ∈ A
  · rwa [coolC_in hb] at e
  · rw [coolC_out hb] at e
    exact s _ _ e
theorem putMut {C : Hp} {o : HO} (h : (∃ xs, o = .lst xs) ∨ ∃ kv, o = .dK kv) : PutOk C o := by
  rcases h with ⟨xs, rfl⟩ | ⟨kv, rfl⟩
  · exact .lst
  · exact ⟨fun _ z => (by cases z), fun _ z => (by cases z), fun _ _ z => (by cases z)⟩
theorem coolC_tab {C H : Hp} {A : List Addr} (hC : ColdOk C) (h0 : ∀ b ∈ A, C b = none) (h : ∀ b ∈ A, ∃ o, H b = some o ∧ ((∃ xs, o = .lst xs) ∨ ∃ kv, o = .dK kv)) : ColdOk (coolC C H A) := hC.more (coolC_same h0) fun b u z => by
  by_cases hb : b ∈ A
  · rw [coolC_in hb] at z
    obtain ⟨o, e1, e2⟩ := h b hb
    rw [e1] at z
    cases z
    exact .inr (putMut e2)
  · rw [coolC_out hb] at z
    exact .inl z
theorem RE.coolA {K : PySem.W.Frag} {F : Fr0} {C H : Hp} {σ : L2.St} {ρ : Rho} (R : RE K F C σ H ρ) {A : List Addr} (hm : ∀ b ∈ A, C b = none ∧ ∃ o, H b = some o ∧ ∀ ps, o ≠ .tbl ps) (hp : ∀ b ∈ A, ∃ o, H b = some o ∧ ((∃ xs, o = .lst xs) ∨ ∃ kv, o = .dK kv))
    (hA : ∀ b ∈ A, F.H0 b = none ∧ (∀ j, ¬ Own K C σ H ρ j b) ∧ ∀ q ∈ F.gd, q.1 ≠ b) : RE K F (coolC C H A) σ H ρ :=
  R.keep (coolC_same fun b hb => (hm b hb).1) (coolC_same2 R.ch)
    (fun b o h1 h2 h3 => ⟨by rw [coolC_out (fun z => h3 (hA b z).1)]; exact h2, ⟨o, h1⟩, fun _ _ => h1⟩)
    (fun j b h => ⟨by rw [coolC_out (fun z => (hA b z).2.1 j h)]; exact h.mem.1, rfl⟩)
    (fun q hq h1 h2 _ _ => ⟨by rw [coolC_out (fun z => (hA q.1 z).2.2 q hq rfl)]; exact h1, h2⟩) R.tabs (coolC_tab R.tabC (fun b hb => (hm b hb).1) hp)
theorem coolLs {K : PySem.W.Frag} {C H : Hp} {A : List Addr} (s : Same C (coolC C H A)) : ∀ {as : List Addr} {xss : List (List PyData)}, (∀ b ∈ as, b ∈ A) → LsAt K C H as xss → DpAll K (coolC C H A) (as.map V.ref) (xss.map PyData.list)
  | _, _, _, .nil => .nil
  | _, _, h, .cons r t => by
    obtain ⟨_, ws, h2, h3⟩ := r
    exact .cons (.lst (.inl (.inl (by rw [coolC_in (h _ List.mem_cons_self)]; exact h2))) (dpaMono s h3)) (coolLs s (fun b hb => h b (List.mem_cons_of_mem _ hb)) t)
theorem callOwn {K : PySem.W.Frag} {F : Fr0} {C H C' H' : Hp} {σ : L2.St} {ρ : Rho} {as : List (List Addr)} {outs : List Ent} {is : List Nat} (R : RE K F C σ H ρ) (x : CallExt K F.tb C H C' H' as outs) (nd : is.Nodup)
    (hp : HotAs K C σ H ρ is as) {j : Nat} {b : Addr} (h : Own K C' σ H' (upHot ρ is outs) j b) : Own K C σ H ρ j b ∨ Taken K C' H' as outs b := by
  obtain ⟨e, v, A, h1, h2, h3, h4⟩ := h
  by_cases hj : j ∈ is
  · obtain ⟨k, ek⟩ := memAt hj
    obtain ⟨A0, e2, e0, v0, g1, g2, g3, g4⟩ := pairGet hp ek
    obtain ⟨e', e5, hh, a, B, A', hA, f1, f2⟩ := pairGet x.out e2
    obtain ⟨a', B', hv, hA2⟩ := g4.root g2
    subst hv
    have hA3 := hA.symm.trans hA2
    simp only [List.cons.injEq] at hA3
    obtain ⟨z1, z2⟩ := hA3
    subst z1 z2 hA
    rw [upHot_in is outs ρ k j e' nd ek e5 (R.lt g1)] at h1
    cases h1
    rw [g3] at h2
    cases h2
    exact .inr ⟨k, a, B, A, _, e2, e5, h3, h4⟩
  · rw [upHot_out is outs ρ j hj] at h1
    refine .inl (Own.back R x.cc h1 h2 (fun c hc => ?_) h3 h4)
    obtain ⟨q1, o, q2, q3⟩ := hc.mem
    obtain ⟨f1, _, f3⟩ := x.fr c o q2 q1
    refine ⟨f1, (f3 (fun A0 hA hcA => ?_) q3).trans q2.symm⟩
    obtain ⟨k, ek⟩ := memAt hA
    obtain ⟨j', e1, e0, v0, g1, g2, g3, g4⟩ := pairGet2 hp ek
    have z := R.inj j j' c hc ⟨e0, v0, A0, g1, g3, g4, hcA⟩
    subst z
    exact hj (List.mem_of_getElem? e1)
theorem callNew {K : PySem.W.Frag} {F : Fr0} {C H C' H' : Hp} {σ : L2.St} {ρ : Rho} {as : List (List Addr)} {outs : List Ent} {is : List Nat} (R : RE K F C σ H ρ) (x : CallExt K F.tb C H C' H' as outs) (nd : is.Nodup)
    (hp : HotAs K C σ H ρ is as) {b : Addr} (h0 : H b = none) (hn : ¬ Taken K C' H' as outs b) : F.H0 b = none ∧ (∀ j, ¬ Own K C' σ H' (upHot ρ is outs) j b) ∧ ∀ q ∈ F.gd, q.1 ≠ b :=
  ⟨R.h0None h0, fun j hj => (callOwn R x nd hp hj).elim (R.hotNe h0 j) hn, R.gdNe h0⟩
theorem callBack {X : Cx} {F : Fr0} {W : WX} {C1 H1 : Hp} {σ : L2.St} {ρ1 : Rho} {is : List Nat} {as : List (List Addr)} {d : Rv} {x : PyData} {outs : List Ent} {Q : VK} (R1 : RE KD F C1 σ H1 ρ1) (nd : is.Nodup) (g2 : HotAs KD C1 σ H1 ρ1 is as)
    (hd : rvD d = some x) (h : Po X F W (RelD X) C1 σ Q (.ok x (upHot ρ1 is outs))) : ∀ v C' H', CallExt KD F.tb C1 H1 C' H' as outs → RvOk (Taken KD C' H' as outs) H1 C' H' v d → Q v H' := by
  intro v C' H' cx dv
  have R2 := R1.call cx nd g2
  cases d with
  | cold y =>
    cases hd
    exact h v C' H' cx.cc R2 dv
  | fresh ds =>
    cases hd
    obtain ⟨p, ws, rfl, hn, hh, hd, h0, ht⟩ := dv
    obtain ⟨n1, n2, n3⟩ := callNew R1 cx nd g2 h0 ht
    exact h _ _ H' (cx.cc.trans (sameUpd hn)) (R2.cool hn hh n2 n1 n3) (.lst (.inl (.inl upd_same)) (dpaMono (sameUpd hn) hd))
  | tree e =>
    cases e with
    | hotLL xss =>
      cases hd
      obtain ⟨A, hE, _, hA⟩ := dv
      have R3 := R2.coolA (A := A) hE.mem hE.put fun b hb => callNew R1 cx nd g2 (hA b hb).1 (hA b hb).2
      have s1 : Same C' (coolC C' H' A) := coolC_same fun b hb => (hE.mem b hb).1
      obtain ⟨a, as', rfl, rfl, _, _, h2, h3⟩ := hE
      exact h _ _ H' (cx.cc.trans s1) R3 (.lst (.inl (.inl (by rw [coolC_in List.mem_cons_self]; exact h2))) (coolLs s1 (fun b hb => List.mem_cons_of_mem _ hb) h3))
    | _ => cases hd
theorem deCall {X : Cx} {W : WX} {P : Pn} {e : Expr} {es : List Expr} {ms : Mi (List AEnt)} {fm : List Ent → FO} {k n : Nat} {x : Str} {p pos : Pos} (D : Dfn X.prog X.w X.K X.mg X.base P.tb k x n fm) (hG : X.A.guards = some []) (hr : Room k X.A) (tk : Takes X W) (ha : DArgs X W P ms (e :: es))
    (hg : Gl X x) (hn : (e :: es).length = n := by rfl) (hdb : (x == ("__debug__" : Str)) = false := by decide) (he : starEach (e :: es) X.env = (false, eval e X.env) :: starEach es X.env := by rfl) (hpl : (backTo pos (starEach es X.env)).any (·.1) = false := by rfl) :
    DE X W P (mCall fm ms) (.Call (.Name x p) (e :: es) [] pos) := fun F hF => by
  obtain ⟨f, fd, ps, hm, hk, hb, FN⟩ := D.ex
  refine peImp (pe_callG FN hG hr hg hm hk hb (fun σ => passAt tk σ) (ha F hF) hdb he hpl) fun σ H Q ⟨C, ρ, R, h⟩ => ⟨C, ρ, R, (poBind h).imp fun vs H1 ⟨C1, ρ1, as, s1, R1, d1, h1⟩ => ?_⟩
  obtain ⟨d1, d2⟩ := d1
  cases e1 : entsOf as ρ1 with
  | none =>
    simp only [e1] at h1
    exact h1.elim
  | some ens =>
    simp only [e1] at h1
    obtain ⟨As, g1, g2⟩ := entsOk R1 d1 e1
    by_cases nd : (hix as).Nodup
    · simp only [if_pos nd] at h1
      have etb : F.tb = P.tb := hF.2.1
      refine ⟨(pairLen d1).trans (d2.trans hn), C1, ens, As, R1.ch, by rw [← etb]; exact R1.tabs, R1.tabC, g1, apartAd R1 g2 nd, ?_⟩
      rw [← etb]
      cases ef : fm ens with
      | rt d outs =>
        simp only [ef] at h1
        cases er : rvD d with
        | none =>
          simp only [er] at h1
          exact h1.elim
        | some x =>
          simp only [er] at h1
          exact callBack (W := W) (X := X) R1 nd g2 er h1
      | ex c w outs =>
        simp only [ef] at h1
        exact fun A dd v C' H' hm cx q1 q2 => h1 A dd v C' H' hm cx.cc (R1.call cx nd g2) q1 q2
      | bad =>
        simp only [ef] at h1
        exact h1
    · simp only [if_neg nd] at h1
      exact h1.elim

/-- the call of a def that returns a new list -/
def mCallF (fm : List Ent → FO) (ms : Mi (List AEnt)) : Mi (List PyData) := ms.bind fun as r => match entsOf as r with
  | none => .bad
  | some es => if (hix as).Nodup then (match fm es with
      | .rt (.fresh ds) outs => .ok ds (upHot r (hix as) outs)
      | .rt _ _ => .bad
      | .ex c w outs => .ex c w (upHot r (hix as) outs)
      | .bad => .bad) else .bad
theorem dfCall {X : Cx} {W : WX} {P : Pn} {e : Expr} {es : List Expr} {ms : Mi (List AEnt)} {fm : List Ent → FO} {k n : Nat} {x : Str} {p pos : Pos} (D : Dfn X.prog X.w X.K X.mg X.base P.tb k x n fm) (hG : X.A.guards = some []) (hr : Room k X.A) (tk : Takes X W) (ha : DArgs X W P ms (e :: es))
    (hg : Gl X x) (hn : (e :: es).length = n := by rfl) (hdb : (x == ("__debug__" : Str)) = false := by decide) (he : starEach (e :: es) X.env = (false, eval e X.env) :: starEach es X.env := by rfl) (hpl : (backTo pos (starEach es X.env)).any (·.1) = false := by rfl) :
    DF X W P (mCallF fm ms) (.Call (.Name x p) (e :: es) [] pos) := fun F hF => by
  obtain ⟨f, fd, ps, hm, hk, hb, FN⟩ := D.ex
  refine peImp (pe_callG FN hG hr hg hm hk hb (fun σ => passAt tk σ) (ha F hF) hdb he hpl) fun σ H Q ⟨C, ρ, R, h⟩ => ⟨C, ρ, R, ?_⟩
  unfold mCallF Mi.bind at h
  cases ea : ms ρ with
  | ex c w r =>
    rw [ea] at h
    exact h
  | bad =>
    rw [ea] at h
    exact h
  | ok as r =>
    rw [ea] at h
    intro vs C1 H1 s1 R1 d1
    obtain ⟨d1, d2⟩ := d1
    simp only at h
    cases e1 : entsOf as r with
    | none =>
      simp only [e1] at h
      exact h.elim
    | some ens =>
      simp only [e1] at h
      obtain ⟨As, g1, g2⟩ := entsOk R1 d1 e1
      by_cases nd : (hix as).Nodup
      · simp only [if_pos nd] at h
        have etb : F.tb = P.tb := hF.2.1
        refine ⟨(pairLen d1).trans (d2.trans hn), C1, ens, As, R1.ch, by rw [← etb]; exact R1.tabs, R1.tabC, g1, apartAd R1 g2 nd, ?_⟩
        rw [← etb]
        cases ef : fm ens with
        | rt d outs =>
          simp only [ef] at h
          intro v C' H' cx dv
          cases d with
          | cold x => exact h.elim
          | tree x => exact h.elim
          | fresh ds =>
            obtain ⟨q, ws, rfl, hn', hh, hd, h0, ht⟩ := dv
            obtain ⟨n1, n2, n3⟩ := callNew R1 cx nd g2 h0 ht
            exact h q ws C' H' (s1.trans cx.cc) (R1.call cx nd g2) hn' hh hd n2 n1 n3
        | ex c w outs =>
          simp only [ef] at h
          exact fun A dd v C' H' hm cx q1 q2 => h A dd v C' H' hm (s1.trans cx.cc) (R1.call cx nd g2) q1 q2
        | bad =>
          simp only [ef] at h
          exact h
      · simp only [if_neg nd] at h
        exact h.elim
/-! ### things that are new, of any kind -/
def PoE (X : Cx) (F : Fr0) (W : WX) (C : Hp) (σ : L2.St) (Q : VK) : Out Ent → Prop
  | .ok en r => ∀ v A C' H', Same C C' → RE KD F C' σ H' r → EntAt KD C' H' v en A → en.isHot = true → (∀ b ∈ A, F.H0 b = none ∧ (∀ j, ¬ Own KD C' σ H' r j b) ∧ ∀ q ∈ F.gd, q.1 ≠ b) → Q v H'
  | .ex c w r => XP X F W C σ c w r
  | .bad => False
def tE (X : Cx) (F : Fr0) (W : WX) (m : Mi Ent) : TE := fun σ H Q => ∃ C ρ, RE KD F C σ H ρ ∧ PoE X F W C σ Q (m ρ)
def DN (X : Cx) (W : WX) (P : Pn) (m : Mi Ent) (e : Expr) : Prop := ∀ F : Fr0, FOk F P → PE X e (tE X F W m)
section
variable {X : Cx} {W : WX} {P : Pn} {e : Expr} {pos : Pos} {m : Mi Ent}
def mEntF (m : Mi (List PyData)) : Mi Ent := m.bind fun ds => Mi.ret (.hot ds)
theorem dnOfF {m : Mi (List PyData)} (h : DF X W P m e) : DN X W P (mEntF m) e := fun F hF => peImp (h F hF) fun σ H Q ⟨C, ρ, R, p⟩ => ⟨C, ρ, R, by
  unfold mEntF Mi.bind at p
  cases e : m ρ with
  | ok ds r =>
    simp only [e, Mi.ret] at p
    exact fun q ws C' H' s1 R1 hn hh hd hx h0 hg => p (.ref q) [q] C' H' s1 R1 ⟨q, ws, rfl, rfl, hn, hh, hd⟩ rfl fun b hb => by
      cases List.mem_singleton.mp hb
      exact ⟨h0, hx, hg⟩
  | ex c w r =>
    rw [e] at p
    exact p
  | bad =>
    rw [e] at p
    exact p⟩
def sSetE (i : Nat) (m : Mi Ent) : Rho → Fl := sBind m fun en r => .nx (r.set i (some en))
theorem dsSetE {i : Nat} {x : Str} {pos' : Pos} (h : DN X W P m e) (hi : i ∉ P.ps) (hp : ∀ te, PE X e te → PS X (.Assign [.Name x pos'] e pos) (tAsg te (gName i))) : DS X W P (sSetE i m) (.Assign [.Name x pos'] e pos) :=
  fun F hF => psImp (hp _ (h F hF)) fun D σ H ⟨C, ρ, R, p⟩ => ⟨C, ρ, R, by
    unfold sSetE sBind at p
    cases e : m ρ with
    | ok en r =>
      rw [e] at p
      exact fun v A C' H' s1 R1 hE hh hA => p _ C' H' s1 (R1.setE (notPin hF hi) hE hA)
    | ex c w r =>
      rw [e] at p
      exact p σ
    | bad =>
      rw [e] at p
      exact p⟩
/-- return of a new thing -/
def sRetE (m : Mi Ent) : Rho → Fl := sBind m fun en r => .rt (.tree en) r
theorem dsRetE (h : DN X W P m e) : DS X W P (sRetE m) (.Return (some e) pos) :=
  fun F hF => psImp (ps_ret (h F hF)) fun D σ H ⟨C, ρ, R, p⟩ => ⟨C, ρ, R, by
    unfold sRetE sBind at p
    cases e : m ρ with
    | ok en r =>
      rw [e] at p
      exact fun v A C' H' s1 R1 hE hh hA => p v σ C' H' s1 R1 ⟨A, hE, hh, fun b hb => ⟨(hA b hb).1, fun ⟨j, hj⟩ => (hA b hb).2.1 j hj⟩⟩
    | ex c w r =>
      rw [e] at p
      exact p σ
    | bad =>
      rw [e] at p
      exact p⟩
/-- the thing of a slot of one's own is handed on; the slot is left -/
def mTake (i : Nat) : Mi Ent := fun r => match hotE r i with
  | some e => .ok e (r.set i none)
  | none => .bad
theorem dnTake {i : Nat} {x : Str} {p : Pos} (hv : PE X (.Name x p) (tVar i)) (hi : i ∉ P.ps) : DN X W P (mTake i) (.Name x p) := fun F hF => peImp hv fun σ H Q ⟨C, ρ, R, h⟩ => by
  unfold mTake at h
  cases e1 : hotE ρ i with
  | none =>
    rw [e1] at h
    exact h.elim
  | some en =>
    rw [e1] at h
    obtain ⟨g1, g2⟩ := hotE_eq e1
    obtain ⟨v, A, h1, h2, h3⟩ := R.entAt g1
    refine ⟨v, h1, ?_⟩
    have R' := R.drop (i := i) (o := some v) (notPin hF hi)
    have es : σ.set i (some v) = σ := by
      apply List.ext_getElem?
      intro j
      by_cases hj : i = j
      · subst hj
        rw [List.getElem?_set_self (by rw [R.len]; exact R.lt g1), h1]
      · rw [List.getElem?_set_ne hj]
    rw [es] at R'
    refine h v A C H (Same.refl _) R' h2 g2 fun b hb => ⟨?_, fun j hj => ?_, fun q hq z => ?_⟩
    · rcases R.own i b (h3 b hb) with ⟨p, hp, z, _⟩ | w
      · exact absurd z (notPin hF hi _ (List.mem_append_left _ (List.mem_map_of_mem hp)))
      · exact w
    · obtain ⟨e', v', A', q1, q2, q3, q4⟩ := hj
      by_cases hij : i = j
      · subst hij
        rw [List.getElem?_set_self (R.lt g1)] at q1
        cases q1
      · rw [List.getElem?_set_ne hij] at q1
        exact hij (R.inj i j b (h3 b hb) ⟨e', v', A', q1, q2, q3, q4⟩)
    · obtain ⟨_, _, _, e4, _⟩ := R.gds q hq
      rw [z] at e4
      exact e4 i (h3 b hb)
/-- the call of a def that returns a new thing -/
def mCallE (fm : List Ent → FO) (ms : Mi (List AEnt)) : Mi Ent := ms.bind fun as r => match entsOf as r with
  | none => .bad
  | some es => if (hix as).Nodup then (match fm es with
      | .rt (.fresh ds) outs => .ok (.hot ds) (upHot r (hix as) outs)
      | .rt (.tree e) outs => .ok e (upHot r (hix as) outs)
      | .rt (.cold _) _ => .bad
      | .ex c w outs => .ex c w (upHot r (hix as) outs)
      | .bad => .bad) else .bad
theorem dnCall {es : List Expr} {ms : Mi (List AEnt)} {fm : List Ent → FO} {k n : Nat} {x : Str} {p pos : Pos} (D : Dfn X.prog X.w X.K X.mg X.base P.tb k x n fm) (hG : X.A.guards = some []) (hr : Room k X.A) (tk : Takes X W) (ha : DArgs X W P ms (e :: es))
    (hg : Gl X x) (hn : (e :: es).length = n := by rfl) (hdb : (x == ("__debug__" : Str)) = false := by decide) (he : starEach (e :: es) X.env = (false, eval e X.env) :: starEach es X.env := by rfl) (hpl : (backTo pos (starEach es X.env)).any (·.1) = false := by rfl) :
    DN X W P (mCallE fm ms) (.Call (.Name x p) (e :: es) [] pos) := fun F hF => by
  obtain ⟨f, fd, ps, hm, hk, hb, FN⟩ := D.ex
  refine peImp (pe_callG FN hG hr hg hm hk hb (fun σ => passAt tk σ) (ha F hF) hdb he hpl) fun σ H Q ⟨C, ρ, R, h⟩ => ⟨C, ρ, R, ?_⟩
  unfold mCallE Mi.bind at h
  cases ea : ms ρ with
  | ex c w r =>
    rw [ea] at h
    exact h
  | bad =>
    rw [ea] at h
    exact h
  | ok as r =>
    rw [ea] at h
    intro vs C1 H1 s1 R1 d1
    obtain ⟨d1, d2⟩ := d1
    simp only at h
    cases e1 : entsOf as r with
    | none =>
      simp only [e1] at h
      exact h.elim
    | some ens =>
      simp only [e1] at h
      obtain ⟨As, g1, g2⟩ := entsOk R1 d1 e1
      by_cases nd : (hix as).Nodup
      · simp only [if_pos nd] at h
        have etb : F.tb = P.tb := hF.2.1
        refine ⟨(pairLen d1).trans (d2.trans hn), C1, ens, As, R1.ch, by rw [← etb]; exact R1.tabs, R1.tabC, g1, apartAd R1 g2 nd, ?_⟩
        rw [← etb]
        cases ef : fm ens with
        | rt d outs =>
          simp only [ef] at h
          intro v C' H' cx dv
          cases d with
          | cold x => exact h.elim
          | tree x =>
            obtain ⟨A, hE, hh, hA⟩ := dv
            exact h v A C' H' (s1.trans cx.cc) (R1.call cx nd g2) hE hh fun b hb => callNew R1 cx nd g2 (hA b hb).1 (hA b hb).2
          | fresh ds =>
            obtain ⟨q, ws, rfl, hn', hh, hd, h0, ht⟩ := dv
            exact h (.ref q) [q] C' H' (s1.trans cx.cc) (R1.call cx nd g2) ⟨q, ws, rfl, rfl, hn', hh, hd⟩ rfl fun b hb => by
              cases List.mem_singleton.mp hb
              exact callNew R1 cx nd g2 h0 ht
        | ex c w outs =>
          simp only [ef] at h
          exact fun A dd v C' H' hm cx q1 q2 => h A dd v C' H' hm (s1.trans cx.cc) (R1.call cx nd g2) q1 q2
        | bad =>
          simp only [ef] at h
          exact h
      · simp only [if_neg nd] at h
        exact h.elim
end

/-! ### a def keeps its promise -/
def hotIdx : Nat → List Ent → List Nat
  | _, [] => []
  | k, e :: es => if e.isHot then k :: hotIdx (k + 1) es else hotIdx (k + 1) es
def outsOf (r : Rho) (P : List Nat) : List Ent := P.map fun i => (hotE r i).getD (.val .none)
def rho0 (n : Nat) (es : List Ent) : Rho := es.map some ++ List.replicate (n - es.length) none
def fnM (body : Rho → Fl) (n : Nat) (P : List Nat) : List Ent → FO := fun es => if hotIdx 0 es = P then (match body (rho0 n es) with
  | .nx r => .rt (.cold .none) (outsOf r P)
  | .rt d r => .rt d (outsOf r P)
  | .ex c w r => .ex c w (outsOf r P)
  | _ => .bad) else .bad
theorem hotIdx_ge : ∀ (es : List Ent) (k i : Nat), i ∈ hotIdx k es → k ≤ i
  | [], _, _, h => by cases h
  | e :: es, k, i, h => by
    unfold hotIdx at h
    split at h
    · rcases List.mem_cons.mp h with rfl | h
      · exact Nat.le_refl _
      · have := hotIdx_ge es (k + 1) i h
        omega
    · have := hotIdx_ge es (k + 1) i h
      omega
theorem hotIdx_nd : ∀ (es : List Ent) (k : Nat), (hotIdx k es).Nodup
  | [], _ => List.nodup_nil
  | e :: es, k => by
    unfold hotIdx
    split
    · refine List.nodup_cons.mpr ⟨fun h => ?_, hotIdx_nd es (k + 1)⟩
      have := hotIdx_ge es (k + 1) k h
      omega
    · exact hotIdx_nd es (k + 1)
theorem hotPairs {K : PySem.W.Frag} {C H : Hp} : ∀ {vs : List V} {es : List Ent} {As : List (List Addr)} (k : Nat), EntsAt K C H vs es As → Paired (fun (i : Nat) (A : List Addr) => k ≤ i ∧ ∃ e v, vs[i - k]? = some v ∧ es[i - k]? = some e ∧ e.isHot = true ∧ EntAt K C H v e A) (hotIdx k es) As
  | _, _, _, _, .nil => .nil
  | _, _, _, k, .val (v := v) (d := d) (es := es) r t => by
    unfold hotIdx
    rw [if_neg (by simp [Ent.isHot])]
    refine pairImp (fun i A ⟨h1, e, u, h2, h3, h4⟩ => ?_) (hotPairs (k + 1) t)
    obtain ⟨j, rfl⟩ : ∃ j, i = k + 1 + j := ⟨i - (k + 1), by omega⟩
    have e1 : k + 1 + j - k = j + 1 := by omega
    have e2 : k + 1 + j - (k + 1) = j := by omega
    rw [e2] at h2 h3
    rw [e1]
    exact ⟨by omega, e, u, by simpa using h2, by simpa using h3, h4⟩
  | _, _, _, k, .hot (v := v) (e := e0) (A := A0) hh r t => by
    unfold hotIdx
    rw [if_pos hh]
    refine .cons ⟨Nat.le_refl _, e0, v, by simp, by simp, hh, r⟩ (pairImp (fun i A ⟨h1, e, u, h2, h3, h4⟩ => ?_) (hotPairs (k + 1) t))
    obtain ⟨j, rfl⟩ : ∃ j, i = k + 1 + j := ⟨i - (k + 1), by omega⟩
    have e1 : k + 1 + j - k = j + 1 := by omega
    have e2 : k + 1 + j - (k + 1) = j := by omega
    rw [e2] at h2 h3
    rw [e1]
    exact ⟨by omega, e, u, by simpa using h2, by simpa using h3, h4⟩
theorem hotIn : ∀ (es : List Ent) (k i : Nat) {e : Ent}, es[i]? = some e → e.isHot = true → k + i ∈ hotIdx k es
  | [], _, _, _, h, _ => by simp at h
  | e :: es, k, 0, e', h, hh => by
    have z : e = e' := by simpa using h
    subst z
    unfold hotIdx
    rw [if_pos hh]
    exact List.mem_cons_self
  | e :: es, k, i + 1, e', h, hh => by
    have z := hotIn es (k + 1) i (by simpa using h) hh
    have e2 : k + 1 + i = k + (i + 1) := by omega
    rw [e2] at z
    unfold hotIdx
    split
    · exact List.mem_cons_of_mem _ z
    · exact z
theorem entsSlots {K : PySem.W.Frag} {C H : Hp} : ∀ {vs : List V} {es : List Ent} {As : List (List Addr)}, EntsAt K C H vs es As → Paired (slotOk K C H) vs es
  | _, _, _, .nil => .nil
  | _, _, _, .val r t => .cons ⟨[], rfl, r⟩ (entsSlots t)
  | _, _, _, .hot _ r t => .cons ⟨_, r⟩ (entsSlots t)
theorem zipFst {α β : Type} {R : α → β → Prop} : ∀ {xs : List α} {ys : List β}, Paired R xs ys → (xs.zip ys).map (·.1) = xs
  | _, _, .nil => rfl
  | _, _, .cons _ t => congrArg (_ :: ·) (zipFst t)
theorem zipSnd {α β : Type} {R : α → β → Prop} : ∀ {xs : List α} {ys : List β}, Paired R xs ys → (xs.zip ys).map (·.2) = ys
  | _, _, .nil => rfl
  | _, _, .cons _ t => congrArg (_ :: ·) (zipSnd t)
theorem pairZip {α β : Type} {R : α → β → Prop} : ∀ {xs : List α} {ys : List β}, Paired R xs ys → ∀ p ∈ xs.zip ys, R p.1 p.2
  | _, _, .nil, _, h => by simp at h
  | _, _, .cons r t, p, h => by
    rw [List.zip_cons_cons] at h
    rcases List.mem_cons.mp h with rfl | h
    · exact r
    · exact pairZip t p h
theorem pairOf {α β γ : Type} {R : α → β → Prop} {S : β → γ → Prop} {f : α → γ} (h : ∀ x y, R x y → S y (f x)) : ∀ {xs : List α} {ys : List β}, Paired R xs ys → Paired S ys (xs.map f)
  | _, _, .nil => .nil
  | _, _, .cons r t => .cons (h _ _ r) (pairOf h t)
theorem pairMem {α β : Type} {R S : α → β → Prop} : ∀ {xs : List α} {ys : List β}, Paired R xs ys → (∀ p ∈ xs.zip ys, S p.1 p.2) → Paired S xs ys
  | _, _, .nil, _ => .nil
  | _, _, .cons r t, h => .cons (h (_, _) (by rw [List.zip_cons_cons]; exact List.mem_cons_self)) (pairMem t fun p hp => h p (by rw [List.zip_cons_cons]; exact List.mem_cons_of_mem _ hp))

section
variable {Pg : Program} {w : World} {K : PySem.W.Frag} {mg : Str → Option Value} {base : Heap}
theorem nodupPair {α β : Type} {R : α → β → Prop} : ∀ {xs : List α} {ys : List β} {i j : Nat} {y : β}, ys.Nodup → ys[i]? = some y → ys[j]? = some y → i = j := fun {xs ys i j y} nd h1 h2 => nd_ix nd h1 h2
/-- the slots at a def's entry -/
theorem start_RE {T : List (Addr × Str)} {N : List Str} {vs : List V} {es : List Ent} {As : List (List Addr)} {C H : Hp} (hs : Same C H) (hT : LamX.Tabs T H) (hTC : ColdOk C) (hE : EntsAt KD C H vs es As) (nd : Apart As) (hl : vs.length ≤ N.length) :
    RE KD ⟨C, H, (hotIdx 0 es).zip As, [], T, [], fun _ => none⟩ C (L2.start N vs) H (rho0 N.length es) := by
  have hp := entsSlots hE
  have hlen := pairLen hp
  have HP := hotPairs 0 hE
  have at_ : ∀ (i : Nat) (e : Ent), (rho0 N.length es)[i]? = some (some e) → es[i]? = some e := fun i e h => by
    unfold rho0 at h
    by_cases hi : i < es.length
    · rw [List.getElem?_append_left (by simpa using hi)] at h
      simpa using h
    · rw [List.getElem?_append_right (by simpa using hi)] at h
      have z := List.mem_of_getElem? h
      simp at z
  have st_ : ∀ (i : Nat) (v : V), vs[i]? = some v → (L2.start N vs)[i]? = some (some v) := fun i v h => by
    unfold L2.start
    have hi : i < vs.length := (List.getElem?_eq_some_iff.mp h).1
    rw [List.getElem?_append_left (by simpa using hi)]
    simp [h]
  have st2 : ∀ (i : Nat) (v : V), (L2.start N vs)[i]? = some (some v) → vs[i]? = some v := fun i v h => by
    unfold L2.start at h
    by_cases hi : i < vs.length
    · rw [List.getElem?_append_left (by simpa using hi)] at h
      simpa using h
    · rw [List.getElem?_append_right (by simpa using hi)] at h
      have z := List.mem_of_getElem? h
      simp at z
  have rh_ : ∀ (i : Nat) (e : Ent), es[i]? = some e → (rho0 N.length es)[i]? = some (some e) := fun i e h => by
    unfold rho0
    have hi : i < es.length := (List.getElem?_eq_some_iff.mp h).1
    rw [List.getElem?_append_left (by simpa using hi)]
    simp [h]
  have inn : ∀ (i : Nat) (b : Addr), Own KD C (L2.start N vs) H (rho0 N.length es) i b → ∃ (k : Nat) (A : List Addr), (hotIdx 0 es)[k]? = some i ∧ As[k]? = some A ∧ b ∈ A := fun i b ⟨e, v, A, h1, h2, h3, h4⟩ => by
    have hh : e.isHot = true := by
      cases ee : e.isHot with
      | true => rfl
      | false =>
        rw [h3.cold ee] at h4
        cases h4
    have m := hotIn es 0 i (at_ i _ h1) hh
    rw [Nat.zero_add] at m
    obtain ⟨k, ek⟩ := memAt m
    obtain ⟨A', e1, _, e', v', g1, g2, g3, g4⟩ := pairGet HP ek
    simp only [Nat.sub_zero] at g1 g2
    rw [at_ i _ h1] at g2
    cases g2
    rw [st2 i _ h2] at g1
    cases g1
    have z := h3.det g4
    subst z
    exact ⟨k, A, ek, e1, h4⟩
  refine ⟨Same.refl _, hs, fun b o h1 h2 => ⟨h2, ⟨o, h1⟩, fun _ _ => h1⟩, fun i e h => ?_, fun i j b h1 h2 => ?_, fun i b h => ?_, fun p hp' => ?_, ?_, fun q hq => (by cases hq), hT, hTC, fun q hq => (by cases hq), fun _ _ z => (by cases z)⟩
  · obtain ⟨v, e1, A, e2⟩ := pairGet2 hp (at_ i e h)
    exact ⟨v, A, st_ i v e1, e2⟩
  · obtain ⟨k, A, e1, e2, e3⟩ := inn i b h1
    obtain ⟨k', A', f1, f2, f3⟩ := inn j b h2
    have z : k = k' := nd k k' A A' b e2 f2 e3 f3
    subst z
    rw [e1] at f1
    exact Option.some.inj f1
  · obtain ⟨k, A, e1, e2, e3⟩ := inn i b h
    refine .inl ⟨(i, A), ?_, rfl, e3⟩
    have e4 : ((hotIdx 0 es).zip As)[k]? = some (i, A) := by
      rw [List.getElem?_zip_eq_some]
      exact ⟨e1, e2⟩
    exact List.mem_of_getElem? e4
  · obtain ⟨_, e, v, e1, e2, e3, e4⟩ := pairZip HP p hp'
    simp only [Nat.sub_zero] at e1 e2
    obtain ⟨a, B, rfl, hA⟩ := e4.root e3
    exact ⟨a, B, e, hA, st_ _ _ e1, rh_ _ _ e2, e3⟩
  · unfold L2.start rho0
    simp [hlen]
theorem zipAt {α β : Type} {xs : List α} {ys : List β} {p : α × β} (h : p ∈ xs.zip ys) : ∃ k : Nat, xs[k]? = some p.1 ∧ ys[k]? = some p.2 := by
  obtain ⟨k, ek⟩ := memAt h
  exact ⟨k, List.getElem?_zip_eq_some.mp ek⟩
theorem end_at {T : List (Addr × Str)} {F : Fr0} {C H C' H' : Hp} {σ : L2.St} {r : Rho} {P : List Nat} {as : List (List Addr)} (hF : F = ⟨C, H, P.zip as, [], T, [], fun _ => none⟩) (R : RE KD F C' σ H' r) {k i : Nat} {A : List Addr} (h1 : P[k]? = some i) (h2 : as[k]? = some A) :
    ∃ a B e A', A = a :: B ∧ σ[i]? = some (some (.ref a)) ∧ r[i]? = some (some e) ∧ e.isHot = true ∧ (outsOf r P)[k]? = some e ∧ EntAt KD C' H' (.ref a) e A' := by
  subst hF
  have hm : (i, A) ∈ P.zip as := List.mem_of_getElem? (i := k) (by rw [List.getElem?_zip_eq_some]; exact ⟨h1, h2⟩)
  obtain ⟨a, B, e, g1, g2, g3, g4⟩ := R.pin (i, A) hm
  obtain ⟨A', g5⟩ := R.slA g3 g2
  refine ⟨a, B, e, A', g1, g2, g3, g4, ?_, g5⟩
  unfold outsOf
  rw [List.getElem?_map, h1]
  show some ((hotE r i).getD (.val .none)) = some e
  rw [hotE_of g3 g4]
  rfl
theorem end_Call {T : List (Addr × Str)} {F : Fr0} {C H C' H' : Hp} {σ : L2.St} {r : Rho} {P : List Nat} {as : List (List Addr)} (hF : F = ⟨C, H, P.zip as, [], T, [], fun _ => none⟩) (hnd : P.Nodup) (hl : P.length = as.length) (R : RE KD F C' σ H' r) : CallExt KD T C H C' H' as (outsOf r P) := by
  have EA := fun (k i : Nat) (A : List Addr) (h1 : P[k]? = some i) (h2 : as[k]? = some A) => end_at hF R h1 h2
  subst hF
  have ix : ∀ (k : Nat) (A : List Addr), as[k]? = some A → ∃ i, P[k]? = some i := fun k A h => by
    have hk : k < as.length := (List.getElem?_eq_some_iff.mp h).1
    exact ⟨_, List.getElem?_eq_getElem (by omega)⟩
  refine ⟨R.c0, R.ch, fun b o h1 h2 => ?_, R.tabs, R.tabC, ?_, fun k k' a a' B B' D D' e e' b h1 h2 h3 h4 h5 h6 h7 h8 => ?_⟩
  · obtain ⟨e1, e2, e3⟩ := R.fr b o h1 h2
    refine ⟨e1, e2, fun nb nt => e3 (fun p hp z => nb p.2 ?_ z) nt⟩
    exact (List.of_mem_zip (a := p.1) (b := p.2) hp).2
  · have go : ∀ (n : Nat) (As : List (List Addr)), As = as.drop n → Paired (fun (A : List Addr) (e : Ent) => e.isHot = true ∧ ∃ a B A', A = a :: B ∧ EntAt KD C' H' (.ref a) e A' ∧ ∀ b ∈ A', b ∈ A ∨ H b = none) As ((outsOf r P).drop n) := by
      intro n As
      induction As generalizing n with
      | nil =>
        intro h
        have hn : as.length ≤ n := by
          rcases Nat.lt_or_ge n as.length with z | z
          · have := congrArg List.length h
            simp at this
            omega
          · exact z
        rw [List.drop_eq_nil_of_le (by unfold outsOf; simpa using (by omega : P.length ≤ n))]
        exact .nil
      | cons A As ih =>
        intro h
        have hA : as[n]? = some A := by
          have := congrArg (fun l => l[0]?) h
          simp at this
          exact this.symm
        obtain ⟨i, hi⟩ := ix n A hA
        obtain ⟨a, B, e, A', g1, g2, g3, g4, g5, g6⟩ := EA n i A hi hA
        have hd : (outsOf r P).drop n = e :: (outsOf r P).drop (n + 1) := by
          obtain ⟨hn, g7⟩ := List.getElem?_eq_some_iff.mp g5
          rw [List.drop_eq_getElem_cons hn, g7]
        rw [hd]
        refine .cons ⟨g4, a, B, A', g1, g6, fun b hb => ?_⟩ (ih (n + 1) (by
          have := congrArg List.tail h
          simp at this
          simpa using this))
        rcases R.own i b ⟨e, .ref a, A', g3, g2, g6, hb⟩ with ⟨p, hp, z1, z2⟩ | z
        · obtain ⟨k', q1, q2⟩ := zipAt hp
          rw [z1] at q1
          have z3 : n = k' := nd_ix hnd hi q1
          subst z3
          rw [hA] at q2
          cases q2
          exact .inl z2
        · exact .inr z
    simpa using go 0 as rfl
  · obtain ⟨i, hi⟩ := ix k _ h1
    obtain ⟨j, hj⟩ := ix k' _ h2
    obtain ⟨a1, B1, e1, A1, g1, g2, g3, g4, g5, g6⟩ := EA k i _ hi h1
    obtain ⟨a2, B2, e2, A2, f1, f2, f3, f4, f5, f6⟩ := EA k' j _ hj h2
    simp only [List.cons.injEq] at g1 f1
    obtain ⟨rfl, _⟩ := g1
    obtain ⟨rfl, _⟩ := f1
    rw [h3] at g5
    cases g5
    rw [h4] at f5
    cases f5
    have z := R.inj i j b ⟨_, _, D, g3, g2, h5, h7⟩ ⟨_, _, D', f3, f2, h6, h8⟩
    subst z
    exact nd_ix hnd hi hj
theorem end_Rv {T : List (Addr × Str)} {F : Fr0} {C H C' H' : Hp} {σ : L2.St} {r : Rho} {P : List Nat} {as : List (List Addr)} {v : V} {d : Rv} (hF : F = ⟨C, H, P.zip as, [], T, [], fun _ => none⟩) (hl : P.length = as.length) (R : RE KD F C' σ H' r)
    (h : RvOk (fun b => ∃ j, Own KD C' σ H' r j b) F.H0 C' H' v d) : RvOk (Taken KD C' H' as (outsOf r P)) H C' H' v d := by
  have EA := fun (k i : Nat) (A : List Addr) (h1 : P[k]? = some i) (h2 : as[k]? = some A) => end_at hF R h1 h2
  subst hF
  have tk : ∀ b, Taken KD C' H' as (outsOf r P) b → ∃ j, Own KD C' σ H' r j b := fun b ⟨k, a, B, D, e, h1, h2, h3, h4⟩ => by
    have hk : k < as.length := (List.getElem?_eq_some_iff.mp h1).1
    have hi : P[k]? = some P[k] := List.getElem?_eq_getElem (by omega)
    obtain ⟨a1, B1, e1, A1, g1, g2, g3, g4, g5, g6⟩ := EA k _ _ hi h1
    simp only [List.cons.injEq] at g1
    obtain ⟨rfl, _⟩ := g1
    rw [h2] at g5
    cases g5
    exact ⟨_, e, _, D, g3, g2, h3, h4⟩
  cases d with
  | cold x => exact h
  | fresh ds =>
    obtain ⟨p, ws, h1, h2, h3, h4, h5, h6⟩ := h
    exact ⟨p, ws, h1, h2, h3, h4, h5, fun z => h6 (tk p z)⟩
  | tree e =>
    obtain ⟨A, h1, h2, h3⟩ := h
    exact ⟨A, h1, h2, fun b hb => ⟨(h3 b hb).1, fun z => (h3 b hb).2 (tk b z)⟩⟩
theorem coreFn {N : List Str} {n : Nat} {P : List Nat} {T : List (Addr × Str)} {body : Rho → Fl} {qual : Str} {sc : Scope} {bd : List Stmt} {f : Addr} {cdv : Value} {A : Around} {outer : List Env} {s : Shared} {H : Hp} {E : XK} {vs : List V} {Q : VK} (hle : n ≤ N.length)
    (hD : DSs (cxOf (L2.CX Pg w) Pg w K mg base N qual sc f cdv A outer s H E) (fun cls d _ H' => E cls d H') ⟨P, T, fun _ => True⟩ body bd) (h : spM T mg n (fnM body N.length P) vs H Q E) :
    ∃ t, PSs (cxOf (L2.CX Pg w) Pg w K mg base N qual sc f cdv A outer s H E) bd t ∧ t { nx := fun _ H' => Q .non H', rt := Q } (L2.start N vs) H := by
  obtain ⟨hl, C, es, As, hs, hT, hTC, hE, nd, h⟩ := h
  unfold fnM at h
  by_cases hP : hotIdx 0 es = P
  · rw [if_pos hP] at h
    have HP := hotPairs 0 hE
    have hlen : P.length = As.length := by
      rw [← hP]
      exact pairLen HP
    have hnd : P.Nodup := by
      rw [← hP]
      exact hotIdx_nd es 0
    refine ⟨_, hD ⟨C, H, P.zip As, [], T, [], fun _ => none⟩ ⟨by rw [← hP]; simpa using zipFst HP, rfl, trivial⟩, C, rho0 N.length es, ?_, ?_⟩
    · have z := start_RE (N := N) hs hT hTC hE nd (by omega)
      rw [hP] at z
      exact z
    · cases eb : body (rho0 N.length es) with
      | nx r =>
        rw [eb] at h
        exact fun σ' C' H' _ R' => h .non C' H' (end_Call rfl hnd hlen R') .non
      | rt d r =>
        rw [eb] at h
        exact fun v σ' C' H' _ R' dv => h v C' H' (end_Call rfl hnd hlen R') (end_Rv rfl hlen R' dv)
      | ex c w r =>
        rw [eb] at h
        exact fun σ' A' d v C' H' hm _ R' q1 q2 => h A' d v C' H' hm (end_Call rfl hnd hlen R') q1 q2
      | bk r =>
        rw [eb] at h
        exact h.elim
      | ct r =>
        rw [eb] at h
        exact h.elim
      | bad =>
        rw [eb] at h
        exact h.elim
  · rw [if_neg hP] at h
    exact h.elim
theorem dfnFn {x qual : Str} {st : Stmt} {f : Addr} {fd : FuncData} {N ps : List Str} {k : Nat} {P : List Nat} {T : List (Addr × Str)} {body : Rho → Fl} (FF : Fun K x qual st f fd) (S : FnScope N ps (defScope st)) (hle : ps.length ≤ N.length)
    (hbody : ∀ (cdv : Value) (A : Around) (outer : List Env) (s : Shared) (H : Hp) (E : XK), A.guards = some [] → Room k (A.deeper (PyProof.Rows.envOfC qual (defScope st) s.heap.objs.size f cdv)) →
      DSs (cxOf (L2.CX Pg w) Pg w K mg base N qual (defScope st) f cdv A outer s H E) (fun cls d _ H' => E cls d H') ⟨P, T, fun _ => True⟩ body (defBody st)) : FnG Pg w K mg base (k + 1) f fd ps (spM T mg ps.length (fnM body N.length P)) := by
  refine fnG_of FF S (fun vs H Q E h => h.1) fun cdv A outer s H vs Q E hG hr h => coreFn hle (hbody cdv A outer s H E hG hr) h
theorem dfnOk {x qual : Str} {st : Stmt} {f : Addr} {fd : FuncData} {N ps : List Str} {k : Nat} {P : List Nat} {T : List (Addr × Str)} {body : Rho → Fl} (FF : Fun K x qual st f fd) (S : FnScope N ps (defScope st)) (hle : ps.length ≤ N.length)
    (hmg : mg x = some (.ref f)) (hb : Binds K fd ps [])
    (hbody : ∀ (cdv : Value) (A : Around) (outer : List Env) (s : Shared) (H : Hp) (E : XK), A.guards = some [] → Room k (A.deeper (PyProof.Rows.envOfC qual (defScope st) s.heap.objs.size f cdv)) →
      DSs (cxOf (L2.CX Pg w) Pg w K mg base N qual (defScope st) f cdv A outer s H E) (fun cls d _ H' => E cls d H') ⟨P, T, fun _ => True⟩ body (defBody st)) : Dfn Pg w K mg base T (k + 1) x ps.length (fnM body N.length P) :=
  ⟨f, fd, ps, hmg, FF.kp, hb, dfnFn FF S hle hbody⟩
end
end Dn
set_option maxHeartbeats 4000000
namespace Dn
open PySem PySem.Spec L2

/-! ## comprehensions -/
def wipeR (r : Rho) : List Nat → Rho
  | [] => r
  | v :: vs => (wipeR r vs).set v none
def restR (r r0 : Rho) : List Nat → Rho
  | [] => r
  | v :: vs => (restR r r0 vs).set v (match r0[v]? with
    | some (some (.val d)) => some (.val d)
    | _ => none)
theorem wipeR_len (r : Rho) : ∀ vs : List Nat, (wipeR r vs).length = r.length
  | [] => rfl
  | v :: vs => by
    unfold wipeR
    rw [List.length_set, wipeR_len r vs]
theorem restR_len (r r0 : Rho) : ∀ vs : List Nat, (restR r r0 vs).length = r.length
  | [] => rfl
  | v :: vs => by
    unfold restR
    rw [List.length_set, restR_len r r0 vs]
theorem wipeR_some {r : Rho} {j : Nat} {e : Ent} : ∀ {vs : List Nat}, (wipeR r vs)[j]? = some (some e) → j ∉ vs ∧ r[j]? = some (some e)
  | [], h => ⟨fun z => (by cases z), h⟩
  | v :: vs, h => by
    unfold wipeR at h
    by_cases hv : v = j
    · subst hv
      by_cases hl : v < (wipeR r vs).length
      · rw [List.getElem?_set_self hl] at h
        cases h
      · rw [List.getElem?_eq_none (by simpa using hl)] at h
        cases h
    · rw [List.getElem?_set_ne hv] at h
      obtain ⟨h1, h2⟩ := wipeR_some h
      exact ⟨fun z => (List.mem_cons.mp z).elim (fun z => hv z.symm) h1, h2⟩
theorem wipeR_out {r : Rho} {j : Nat} : ∀ {vs : List Nat}, j ∉ vs → (wipeR r vs)[j]? = r[j]?
  | [], _ => rfl
  | v :: vs, h => by
    unfold wipeR
    rw [List.getElem?_set_ne (fun e => h (by rw [e]; exact List.mem_cons_self))]
    exact wipeR_out fun z => h (List.mem_cons_of_mem _ z)
theorem restR_out {r r0 : Rho} {j : Nat} : ∀ {vs : List Nat}, j ∉ vs → (restR r r0 vs)[j]? = r[j]?
  | [], _ => rfl
  | v :: vs, h => by
    unfold restR
    rw [List.getElem?_set_ne (fun e => h (by rw [e]; exact List.mem_cons_self))]
    exact restR_out fun z => h (List.mem_cons_of_mem _ z)
theorem restR_some {r r0 : Rho} {j : Nat} {e : Ent} : ∀ {vs : List Nat}, (restR r r0 vs)[j]? = some (some e) → (∃ d, e = .val d ∧ r0[j]? = some (some (.val d))) ∨ (j ∉ vs ∧ r[j]? = some (some e))
  | [], h => .inr ⟨fun z => (by cases z), h⟩
  | v :: vs, h => by
    unfold restR at h
    by_cases hv : v = j
    · subst hv
      by_cases hl : v < (restR r r0 vs).length
      · rw [List.getElem?_set_self hl] at h
        split at h
        · rename_i d e1
          cases h
          exact .inl ⟨d, rfl, e1⟩
        · cases h
      · rw [List.getElem?_eq_none (by simpa using hl)] at h
        cases h
    · rw [List.getElem?_set_ne hv] at h
      rcases restR_some h with z | ⟨h1, h2⟩
      · exact .inl z
      · exact .inr ⟨fun z => (List.mem_cons.mp z).elim (fun z => hv z.symm) h1, h2⟩
/-- the same heap, other slots -/
theorem RE.ofPt {K : PySem.W.Frag} {F : Fr0} {C H : Hp} {σ1 σ : L2.St} {r1 r : Rho} (R : RE K F C σ1 H r1) (hl : σ.length = r.length)
    (h : ∀ (j : Nat) (e : Ent), r[j]? = some (some e) → (∃ d v, e = .val d ∧ σ[j]? = some (some v) ∧ Dp K C v d) ∨ (r1[j]? = some (some e) ∧ σ[j]? = σ1[j]?))
    (hp : ∀ p ∈ F.pp, σ[p.1]? = σ1[p.1]? ∧ r[p.1]? = r1[p.1]?) (hr : ∀ q ∈ F.rw, σ[q.1]? = σ1[q.1]?) : RE K F C σ H r := by
  have bk : ∀ j b, Own K C σ H r j b → Own K C σ1 H r1 j b := fun j b ⟨e, v, A, h1, h2, h3, h4⟩ => by
    rcases h j e h1 with ⟨d, u, rfl, _, _⟩ | ⟨e1, e2⟩
    · rw [h3.1] at h4
      cases h4
    · exact ⟨e, v, A, e1, e2.symm.trans h2, h3, h4⟩
  refine R.step (Same.refl _) R.ch hl (fun b o h1 h2 _ => ⟨h2, ⟨o, h1⟩, fun _ _ => h1⟩) (fun j e hj => ?_) (fun j b hb => .inl (bk j b hb)) (fun i j b h1 h2 => R.inj i j b (bk i b h1) (bk j b h2)) (fun p hp' => ?_) (fun q _ h1 h2 _ _ => ⟨h1, h2⟩) R.tabs R.tabC hr
  · rcases h j e hj with ⟨d, v, rfl, e1, e2⟩ | ⟨e1, e2⟩
    · exact ⟨v, [], e1, rfl, e2⟩
    · obtain ⟨v, A, f1, f2⟩ := R.sl j e e1
      exact ⟨v, A, e2.trans f1, f2⟩
  · obtain ⟨a, B, e, _, _, h3, h4⟩ := R.pin p hp'
    obtain ⟨g1, g2⟩ := hp p hp'
    exact ⟨g1, e, g2.trans h3, h4⟩
section
variable {K : PySem.W.Frag} {F : Fr0} {C C' H H' : Hp} {σ : L2.St} {ρ r : Rho} {vs : List Nat}
theorem RE.wipe (R : RE K F C σ H ρ) (hv : ∀ v ∈ vs, ∀ p ∈ F.pp.map (·.1) ++ F.rw.map (·.1), p ≠ v) : RE K F C (L2.wipe σ vs) H (wipeR ρ vs) := by
  refine R.ofPt (by rw [wipe_length, wipeR_len]; exact R.len) (fun j e h => ?_) (fun p hp => ?_) fun q hq => wipeOut vs σ _ fun z => hv _ z q.1 (List.mem_append_right _ (List.mem_map_of_mem hq)) rfl
  · obtain ⟨h1, h2⟩ := wipeR_some h
    exact .inr ⟨h2, wipeOut vs σ j h1⟩
  · have n : p.1 ∉ vs := fun z => hv _ z p.1 (List.mem_append_left _ (List.mem_map_of_mem hp)) rfl
    exact ⟨wipeOut vs σ _ n, wipeR_out n⟩
theorem RE.unwipe (R : RE K F C' (L2.wipe σ vs) H' r) (R0 : RE K F C σ H ρ) (s : Same C C') (hv : ∀ v ∈ vs, ∀ p ∈ F.pp.map (·.1) ++ F.rw.map (·.1), p ≠ v) : RE K F C' σ H' (restR r ρ vs) := by
  refine R.ofPt ?_ (fun j e h => ?_) (fun p hp => ?_) fun q hq => (wipeOut vs σ _ fun z => hv _ z q.1 (List.mem_append_right _ (List.mem_map_of_mem hq)) rfl).symm
  · rw [restR_len]
    have z := R.len
    rw [wipe_length] at z
    exact z
  · rcases restR_some h with ⟨d, rfl, e1⟩ | ⟨h1, h2⟩
    · obtain ⟨v, A, e2, _, e3⟩ := R0.sl j _ e1
      exact .inl ⟨d, v, rfl, e2, dpMono s e3⟩
    · exact .inr ⟨h2, (wipeOut vs σ j h1).symm⟩
  · have n : p.1 ∉ vs := fun z => hv _ z p.1 (List.mem_append_left _ (List.mem_map_of_mem hp)) rfl
    exact ⟨(wipeOut vs σ _ n).symm, restR_out n⟩
/-- a list of one's own is guarded -/
def Fr0.put (F : Fr0) (D : Addr) (ws : List V) : Fr0 := { F with gd := (D, .lst ws) :: F.gd }
theorem RE.guard (R : RE K F C σ H ρ) {D : Addr} (hD : H D = none) : RE K (F.put D []) C σ (upd H D (.lst [])) ρ := by
  have x : Same H (upd H D (.lst [])) := sameUpd hD
  have ex : Ext C H C (upd H D (.lst [])) := ⟨Same.refl _, R.ch.trans x, x, fun _ _ _ z => z, fun h => h⟩
  have R2 : RE K F C σ (upd H D (.lst [])) ρ := R.grow ex
  refine ⟨R2.c0, R2.ch, R2.fr, R2.sl, R2.inj, R2.own, R2.pin, R2.len, fun g hg => ?_, R2.tabs, R2.tabC, R2.raw, R2.bb⟩
  rcases List.mem_cons.mp hg with rfl | hg
  · exact ⟨R.ch.free hD, upd_same, R.h0None hD, R.hotNeU hD ex, fun _ z => by cases z⟩
  · exact R2.gds g hg
theorem RE.reguard {D : Addr} {ws us : List V} (R : RE K (F.put D ws) C σ H ρ) (hg : ∀ q ∈ F.gd, q.1 ≠ D) : RE K (F.put D us) C σ (upd H D (.lst us)) ρ := by
  obtain ⟨e1, e2, e3, e4, _⟩ := R.gds (D, .lst ws) List.mem_cons_self
  have R1 : RE K F C σ H ρ := ⟨R.c0, R.ch, R.fr, R.sl, R.inj, R.own, R.pin, R.len, fun g hg => R.gds g (List.mem_cons_of_mem _ hg), R.tabs, R.tabC, R.raw, R.bb⟩
  have e3' : F.H0 D = none := e3
  have R2 : RE K F C σ (upd H D (.lst us)) ρ := R1.keep (Same.refl _) (fun b o q => by
      rw [upd_ne (fun z => by subst z; rw [e1] at q; cases q)]
      exact R.ch _ _ q)
    (fun b o h1 h2 h3 => by
      have nb : b ≠ D := fun z => by subst z; exact h3 e3'
      rw [upd_ne nb]
      exact ⟨h2, ⟨o, h1⟩, fun _ _ => h1⟩)
    (fun j b hb => ⟨hb.mem.1, upd_ne fun z => by subst z; exact e4 j hb⟩)
    (fun q hq h1 h2 _ _ => ⟨h1, by rw [upd_ne (hg q hq)]; exact h2⟩) (tabsUpd R.tabs e2) R.tabC
  refine ⟨R2.c0, R2.ch, R2.fr, R2.sl, R2.inj, R2.own, R2.pin, R2.len, fun g hg => ?_, R2.tabs, R2.tabC, R2.raw, R2.bb⟩
  rcases List.mem_cons.mp hg with rfl | hg
  · refine ⟨e1, upd_same, e3, fun j hj => e4 j ?_, fun _ z => by cases z⟩
    obtain ⟨x1, x2, x3, y1, y2, y3, y4⟩ := hj
    exact Own.back R1 (Same.refl _) y1 y2 (fun b hb => ⟨hb.mem.1, upd_ne fun z => by subst z; exact e4 j hb⟩) y3 y4
  · exact R2.gds g hg
theorem RE.unguard {D : Addr} {ws : List V} (R : RE K (F.put D ws) C σ H ρ) : RE K F C σ H ρ :=
  ⟨R.c0, R.ch, R.fr, R.sl, R.inj, R.own, R.pin, R.len, fun g hg => R.gds g (List.mem_cons_of_mem _ hg), R.tabs, R.tabC, R.raw, R.bb⟩
end
def compL (g : PyData → Rho → Option Rho) (t : Mi Bool) (m : Mi PyData) (vs : List Nat) : List PyData → List PyData → Rho → Out (List PyData)
  | [], acc, r => .ok acc r
  | d :: ds, acc, r => match g d (wipeR r vs) with
    | none => .bad
    | some r1 => match t r1 with
      | .ok true r2 => (match m r2 with
        | .ok y r3 => if acc.length < 16777216 then compL g t m vs ds (acc ++ [y]) r3 else .bad
        | _ => .bad)
      | .ok false r2 => compL g t m vs ds acc r2
      | _ => .bad
def mComp (mi : Mi (List PyData)) (g : PyData → Rho → Option Rho) (t : Mi Bool) (m : Mi PyData) (vs : List Nat) : Mi (List PyData) := mi.bind fun ds r1 => match compL g t m vs ds [] r1 with
  | .ok acc r2 => .ok acc (restR r2 r1 vs)
  | _ => .bad
abbrev W0 : WX := fun _ _ _ _ => False
def anyF {α β : Type} (X : Cx) (P : Pn) (Rel : L2.St → Hp → β → α → Prop) (m : Mi α) : L2.St → Hp → (β → Hp → Prop) → Prop := fun σ H Q => ∃ F : Fr0, FOk F P ∧ tM X F W0 Rel m σ H Q
def anyG (X : Cx) (P : Pn) (ts : List Nat) (g : PyData → Rho → Option Rho) : TG := fun v σ H Q => ∃ F : Fr0, FOk F P ∧ tG X F ts g v σ H Q
def DTs (X : Cx) (P : Pn) (t : Mi Bool) (ifs : List Expr) : Prop := ∀ F : Fr0, FOk F P → PTs X ifs (tM X F W0 RelB t)
theorem dtsNil {X : Cx} {P : Pn} : DTs X P (Mi.ret true) [] := fun F _ => ⟨fun pins s σ H Q I ⟨C, ρ, R, p⟩ => pts_nil.run pins s σ H Q I (poRet (Rel := RelB) p R rfl)⟩
theorem dtsOne {X : Cx} {P : Pn} {t : Mi Bool} {c : Expr} (h : DT X W0 P t c) : DTs X P t [c] := fun F hF => pts_one (h F hF)
theorem compImp {X : Cx} {F : Fr0} {W : WX} {P : Pn} {ts vs : List Nat} (hPk : ∀ (F : Fr0) (D : Addr) (ws : List V), P.ok F → P.ok (F.put D ws)) (hF : FOk F P) {mi : Mi (List PyData)} {g : PyData → Rho → Option Rho} {t : Mi Bool} {m : Mi PyData} (hv : ∀ v ∈ vs, v ∉ P.ps) (hts : ∀ i ∈ ts, i ∈ vs) {σ : L2.St} {H : Hp} {Q : VK}
    (h : tF X F W (mComp mi g t m vs) σ H Q) : tLc (tI X F W mi) (anyG X P ts g) (anyF X P RelB t) (anyF X P (RelD X) m) vs σ H Q := by
  obtain ⟨C, ρ, R, p⟩ := h
  refine ⟨C, ρ, R, ?_⟩
  unfold mComp Mi.bind at p
  have hvF : ∀ v ∈ vs, ∀ p ∈ F.pp.map (·.1) ++ F.rw.map (·.1), p ≠ v := fun v hv' => notPin hF (hv v hv')
  cases em : mi ρ with
  | bad =>
    rw [em] at p
    exact p.elim
  | ex c w r =>
    rw [em] at p
    exact p
  | ok ds r =>
    rw [em] at p
    simp only at p
    refine ⟨ds, rfl, fun J C1 H1 s1 R1 its D hD => ?_⟩
    cases ec : compL g t m vs ds [] r with
    | bad =>
      rw [ec] at p
      exact p.elim
    | ex c w r2 =>
      rw [ec] at p
      exact p.elim
    | ok accE rE =>
      rw [ec] at p
      simp only at p
      have gne : ∀ q ∈ F.gd, q.1 ≠ D := R1.gdNe hD
      have h0D : F.H0 D = none := R1.h0None hD
      refine ⟨fun i n H2 => n + i = ds.length ∧ ∃ C2 ρ2 acc ws, Same C1 C2 ∧ RE KD (F.put D ws) C2 (wipe σ vs) H2 (wipeR ρ2 vs) ∧ DpAll KD C2 ws acc ∧ compL g t m vs (ds.drop i) acc ρ2 = .ok accE rE,
        ⟨ds.length, rfl, C1, r, [], [], Same.refl _, (R1.guard hD).wipe hvF, .nil, ec⟩, fun i n H2 hW => ?_⟩
      obtain ⟨hn, C2, ρ2, acc, ws, s2, R2, da, hc⟩ := hW
      by_cases hl : i < ds.length
      · refine .inr ⟨its.go i _ C2 H2 (List.getElem?_eq_getElem hl) s2 R2.ch, fun H' => ∃ C3 ρ3 acc ws, Same C1 C3 ∧ RE KD (F.put D ws) C3 (wipe σ vs) H' (wipeR ρ3 vs) ∧ DpAll KD C3 ws acc ∧ compL g t m vs (ds.drop (i + 1)) acc ρ3 = .ok accE rE, fun H' hN => ⟨n - 1, by omega, by omega, hN⟩, fun x H3 y => ?_⟩
        obtain ⟨C3, ex, dx⟩ := its.yld i _ C2 H2 x H3 (List.getElem?_eq_getElem hl) s2 R2.ch y
        have R3 := R2.grow ex
        rw [List.drop_eq_getElem_cons hl] at hc
        unfold compL at hc
        cases eg : g ds[i] (wipeR ρ2 vs) with
        | none =>
          rw [eg] at hc
          cases hc
        | some r1 =>
          rw [eg] at hc
          simp only at hc
          have hFp : FOk (F.put D ws) P := ⟨hF.1, hF.2.1, hPk _ _ _ hF.2.2⟩
          refine ⟨F.put D ws, hFp, C3, wipeR ρ2 vs, ds[i], R3, dx, ?_⟩
          rw [eg]
          intro σ4 C4 H4 s4 R4 w4
          have w5 : wipe σ4 vs = wipe σ vs := by
            rw [w4 vs hts]
            apply List.ext_getElem?
            intro j
            by_cases hj : j ∈ vs
            · by_cases hl2 : j < σ.length
              · rw [wipeIn vs _ j hj (by rw [wipe_length]; exact hl2), wipeIn vs _ j hj hl2]
              · rw [List.getElem?_eq_none (by rw [wipe_length, wipe_length]; simpa using hl2), List.getElem?_eq_none (by rw [wipe_length]; simpa using hl2)]
            · rw [wipeOut vs _ j hj]
          have down : ∀ {C5 H5 : Hp} {r5 : Rho} {ws5 : List V}, RE KD (F.put D ws5) C5 σ4 H5 r5 → RE KD (F.put D ws5) C5 (wipe σ vs) H5 (wipeR r5 vs) := fun R5 => by
            have z := R5.wipe (vs := vs) hvF
            rw [w5] at z
            exact z
          refine ⟨w5, F.put D ws, hFp, C4, r1, R4, ?_⟩
          cases et : t r1 with
          | bad =>
            rw [et] at hc
            cases hc
          | ex c w r2 =>
            rw [et] at hc
            cases hc
          | ok b r2 =>
            rw [et] at hc
            intro b' C5 H5 s5 R5 eb
            have eb' : b' = b := eb
            subst eb'
            cases b' with
            | false =>
              simp only at hc
              exact iteF ⟨C5, r2, acc, ws, (s2.trans ex.cc).trans (s4.trans s5), down R5, dpaMono ((ex.cc.trans s4).trans s5) da, hc⟩
            | true =>
              simp only at hc
              refine iteT ⟨F.put D ws, hFp, C5, r2, R5, ?_⟩
              cases ey : m r2 with
              | bad =>
                rw [ey] at hc
                cases hc
              | ex c w r3 =>
                rw [ey] at hc
                cases hc
              | ok yd r3 =>
                rw [ey] at hc
                simp only at hc
                intro yv C6 H6 s6 R6 dy
                by_cases ha : acc.length < 16777216
                · rw [if_pos ha] at hc
                  obtain ⟨_, g2, _⟩ := R6.gds (D, .lst ws) List.mem_cons_self
                  refine ⟨ws, g2, by rw [dpaLen da, sizeLine_eq]; exact ha, C6, r3, acc ++ [yd], ws ++ [yv], ((s2.trans ex.cc).trans (s4.trans s5)).trans s6, down (R6.reguard gne), dpaApp (dpaMono (((ex.cc.trans s4).trans s5).trans s6) da) (.cons dy .nil), hc⟩
                · rw [if_neg ha] at hc
                  cases hc
      · have e : i = ds.length := by omega
        subst e
        refine .inl ⟨its.stop C2 H2 s2 R2.ch, ?_⟩
        rw [List.drop_length] at hc
        unfold compL at hc
        cases hc
        obtain ⟨g1, g2, g3, g4, _⟩ := R2.gds (D, .lst ws) List.mem_cons_self
        have R3 : RE KD F C2 σ H2 (restR rE r vs) := by
          have z := RE.unwipe (ρ := r) (C := C1) (H := H1) R2.unguard R1 s2 hvF
          have same : restR (wipeR rE vs) r vs = restR rE r vs := by
            apply List.ext_getElem?
            intro j
            by_cases hj : j ∈ vs
            · have go : ∀ (us : List Nat) (x y : Rho), x.length = y.length → j ∈ us → (restR x r us)[j]? = (restR y r us)[j]? := by
                intro us
                induction us with
                | nil =>
                  intro x y _ h
                  cases h
                | cons u us ih =>
                  intro x y hxy h
                  unfold restR
                  by_cases hu : u = j
                  · subst hu
                    by_cases hl3 : u < y.length
                    · rw [List.getElem?_set_self (by rw [restR_len, hxy]; exact hl3), List.getElem?_set_self (by rw [restR_len]; exact hl3)]
                    · rw [List.getElem?_eq_none (by rw [List.length_set, restR_len, hxy]; simpa using hl3), List.getElem?_eq_none (by rw [List.length_set, restR_len]; simpa using hl3)]
                  · rw [List.getElem?_set_ne hu, List.getElem?_set_ne hu]
                    rcases List.mem_cons.mp h with z | z
                    · exact absurd z.symm hu
                    · exact ih x y hxy z
              exact go vs _ _ (wipeR_len _ _) hj
            · rw [restR_out hj, restR_out hj, wipeR_out hj]
          rw [same] at z
          exact z
        refine p D ws C2 H2 (s1.trans s2) R3 g1 g2 da (fun j hj => ?_) h0D gne
        obtain ⟨en, v, A, q1, q2, q3, q4⟩ := hj
        rcases restR_some q1 with ⟨d, e1, _⟩ | ⟨h1, h2⟩
        · subst e1
          rw [q3.1] at q4
          cases q4
        · exact g4 j ⟨en, v, A, by rw [wipeR_out h1]; exact h2, by rw [wipeOut vs σ j h1]; exact q2, q3, q4⟩
section
variable {X : Cx} {W : WX} {P : Pn} {ts : List Nat} {elt tg iter : Expr} {ifs : List Expr} {scope : Scope} {own : List (Str × Nat)} {pos : Pos} {mi : Mi (List PyData)} {g : PyData → Rho → Option Rho} {t : Mi Bool} {m : Mi PyData}
theorem piAny {F : Fr0} (hi : DI X W P mi tg iter) (hF : FOk F P) : PI X tg iter (tI X F W mi) := hi F hF
theorem dfComp (hc : X.calm = true) (hN : X.N.Nodup) (hi : DI X W P mi tg iter) (ok : BlkOk X.N X.env.scope scope own) (hv : ∀ v ∈ own.map (·.2), v ∉ P.ps) (hts : ∀ i ∈ ts, i ∈ own.map (·.2))
    (hg : ∀ (s : Shared) (H : Hp) (C : Addr) (cl : List (Str × Addr)) (fp : List Addr), DG (X.blk s H scope (compEnvC scope cl C X.env) fp) P ts g tg)
    (ht : ∀ (s : Shared) (H : Hp) (C : Addr) (cl : List (Str × Addr)) (fp : List Addr), DTs (X.blk s H scope (compEnvC scope cl C X.env) fp) P t ifs)
    (he : ∀ (s : Shared) (H : Hp) (C : Addr) (cl : List (Str × Addr)) (fp : List Addr), DE (X.blk s H scope (compEnvC scope cl C X.env) fp) W0 P m elt) (hs : ∀ x, foldedSetIterable iter X.env x = pure x := by intro _; rfl) (hPk : ∀ (F : Fr0) (D : Addr) (ws : List V), P.ok F → P.ok (F.put D ws) := by exact fun _ _ _ h => h) :
    DF X W P (mComp mi g t m (own.map (·.2))) (.ListComp elt [⟨tg, iter, ifs, 0⟩] scope pos) := fun F hF =>
  peImp (pe_lc (g := anyG X P ts g) (tt := anyF X P RelB t) (te := anyF X P (RelD X) m) hc hN (hi F hF) ok
    (fun s H C cl fp => ⟨fun pins s' σ H' v u Q I r ⟨F', hF', w⟩ => (hg s H C cl fp F' hF').run pins s' σ H' v u Q I r w⟩)
    (fun s H C cl fp => ⟨fun pins s' σ H' Q I ⟨F', hF', w⟩ => (ht s H C cl fp F' hF').run pins s' σ H' Q I w⟩)
    (fun s H C cl fp => ⟨fun pins s' σ H' Q I ⟨F', hF', w⟩ => (he s H C cl fp F' hF').run pins s' σ H' Q I w⟩) hs) fun σ H Q h => compImp hPk hF hv hts h
/-- y = [..] -/
def sSetF (i : Nat) (m : Mi (List PyData)) : Rho → Fl := sBind m fun ds r => .nx (r.set i (some (.val (.list ds))))
theorem dsSetComp {i : Nat} {y : Str} {py spos : Pos} (hi' : i ∉ P.ps) (hc : X.calm = true) (hN : X.N.Nodup) (hy : X.N[i]? = some y) (hyl : X.env.scope.names.lookup y = some .local)
    (hsw : swapsWith (.ListComp elt [⟨tg, iter, ifs, 0⟩] scope pos) (some (.Name y py)) spos.line X.env = pure true) (hi : DI X W P mi tg iter) (ok : BlkOk X.N X.env.scope scope own) (hv : ∀ v ∈ own.map (·.2), v ∉ P.ps) (hts : ∀ i ∈ ts, i ∈ own.map (·.2))
    (hg : ∀ (s : Shared) (H : Hp) (C : Addr) (cl : List (Str × Addr)) (fp : List Addr), DG (X.blk s H scope (compEnvC scope cl C X.env) fp) P ts g tg)
    (ht : ∀ (s : Shared) (H : Hp) (C : Addr) (cl : List (Str × Addr)) (fp : List Addr), DTs (X.blk s H scope (compEnvC scope cl C X.env) fp) P t ifs)
    (he : ∀ (s : Shared) (H : Hp) (C : Addr) (cl : List (Str × Addr)) (fp : List Addr), DE (X.blk s H scope (compEnvC scope cl C X.env) fp) W0 P m elt) (hs : ∀ x, foldedSetIterable iter X.env x = pure x := by intro _; rfl) (hPk : ∀ (F : Fr0) (D : Addr) (ws : List V), P.ok F → P.ok (F.put D ws) := by exact fun _ _ _ h => h) :
    DS X W P (sSetHot i (mComp mi g t m (own.map (·.2)))) (.Assign [.Name y py] (.ListComp elt [⟨tg, iter, ifs, 0⟩] scope pos) spos) := fun F hF =>
  psImp (ps_setLc (i := i) (g := anyG X P ts g) (tt := anyF X P RelB t) (te := anyF X P (RelD X) m) hc hN hy hyl hsw (hi F hF) ok
    (fun s H C cl fp => ⟨fun pins s' σ H' v u Q I r ⟨F', hF', w⟩ => (hg s H C cl fp F' hF').run pins s' σ H' v u Q I r w⟩)
    (fun s H C cl fp => ⟨fun pins s' σ H' Q I ⟨F', hF', w⟩ => (ht s H C cl fp F' hF').run pins s' σ H' Q I w⟩)
    (fun s H C cl fp => ⟨fun pins s' σ H' Q I ⟨F', hF', w⟩ => (he s H C cl fp F' hF').run pins s' σ H' Q I w⟩) hs) fun D σ H ⟨C, ρ, R, p⟩ => by
    refine compImp hPk hF hv hts ⟨C, ρ, R, ?_⟩
    unfold sSetHot sBind at p
    cases e : mComp mi g t m (own.map (·.2)) ρ with
    | ok ds r =>
      rw [e] at p
      exact fun q ws C' H' s1 R1 hn hh hd hx h0 hgd => p _ C' H' s1 (R1.setHot (notPin hF hi') hn hh hd hx h0 hgd)
    | ex c w r =>
      rw [e] at p
      exact p σ
    | bad =>
      rw [e] at p
      exact p
end
end Dn
set_option maxHeartbeats 4000000
namespace Dn
open PySem PySem.Spec PyProof.Rows L2

/-! ## what is done with data -/
theorem coldL {C H : Hp} {p : Addr} {vs : List V} {ds : List PyData} (sm : Same C H) (hn : H p = none) (hd : DpAll KD C vs ds) : Ext C H (upd C p (.lst vs)) (upd H p (.lst vs)) ∧ Dp KD (upd C p (.lst vs)) (.ref p) (.list ds) :=
  ⟨Ext.new sm hn, .lst (.inl (.inl upd_same)) (dpaMono (Ext.new sm hn).cc hd)⟩
theorem coldT {C H : Hp} {p : Addr} {vs : List V} {ds : List PyData} (sm : Same C H) (hn : H p = none) (hd : DpAll KD C vs ds) (hm : isMv ds = false) : Ext C H (upd C p (.tup vs)) (upd H p (.tup vs)) ∧ Dp KD (upd C p (.tup vs)) (.ref p) (.tuple ds) := by
  have ex : Ext C H (upd C p (.tup vs)) (upd H p (.tup vs)) := Ext.put sm hn (.tup ((npOf hd hm).mono (sameUpd (sm.free hn))))
  exact ⟨ex, .tup (.inl (.inl upd_same)) (dpaMono ex.cc hd)⟩
theorem coldB {C H : Hp} {p : Addr} {o : Obj} {vs : List V} {ds : List PyData} (sm : Same C H) (hn : H p = none) (ho : o.dict = none) (hd : DpAll KD C vs ds) : Ext C H (upd C p (.frz o (.tup vs))) (upd H p (.frz o (.tup vs))) ∧ Dp KD (upd C p (.frz o (.tup vs))) (.ref p) (.tuple ds) := by
  have ex : Ext C H (upd C p (.frz o (.tup vs))) (upd H p (.frz o (.tup vs))) := Ext.put sm hn (.bare ho)
  exact ⟨ex, .tup (.inl (.inr ⟨o, upd_same⟩)) (dpaMono ex.cc hd)⟩
theorem call_tuple_ofB {X : Cx} : CallR X (.type "tuple") (fun xs H Q => ∃ p ys, xs = [.ref p] ∧ ((SqL X.K H p ys ∧ ∀ (l : Addr) (o : Obj), o.dict = none → H l = none → Q (.ref l) (upd H l (.frz o (.tup ys)))) ∨ (SqT X.K H p ys ∧ Q (.ref p) H))) := by
  intro pins s σ H xs us Q I r h
  obtain ⟨p, ys, rfl, h⟩ := h
  obtain ⟨u, rfl, rx⟩ := vals1 r
  cases rx
  rcases h with ⟨hq, q⟩ | ⟨hq, q⟩
  · obtain ⟨its, r', pl, hz⟩ := I.list hq
    have hlen := r'.length
    refine call_tuple_list pl.isList (fun h' kp => ?_) (by simp only [List.size_toArray] <;> omega)
    have I1 : Inv X pins σ H { s with heap := h' } := I.kept (t' := s.toks) kp
    have I2 : Inv X pins σ (upd H h'.objs.size (.frz { cls := .type "tuple", data := .seq its.toArray } (.tup ys))) { s with heap := h'.push { cls := .type "tuple", data := .seq its.toArray } } :=
      I1.laid (t' := s.toks) (fun b o e => Heap.get?_push_of_some _ e) (Nat.le_refl _) ⟨Heap.get?_push_size _ rfl, show ObjOk X.prog X.w _ _ _ (.tup ys) from ⟨hz, its, r', IsTup.new _ _⟩⟩
    exact ⟨.ref h'.objs.size, _, I2, rfl, q _ _ rfl (I1.hok.fresh (Nat.le_refl _))⟩
  · obtain ⟨its, r', pl, hz⟩ := I.tuple hq
    exact call_tuple_same pl ⟨.ref p, H, I, rfl, q⟩
theorem lineLe {n : Nat} (h : n ≤ 16777216) : n ≤ sizeLine := by rw [sizeLine_eq]; exact h
theorem rdL {X : Cx} {pins : List (Addr × Obj)} {σ : L2.St} {H : Hp} {s : Shared} {a : Addr} {xs : List V} (I : Inv X pins σ H s) (h : SqL KD H a xs) :
    xs.length ≤ sizeLine ∧ ∃ (its : List Value) (n : Nat), Vals xs its ∧ s.heap.get? a = some { cls := .type "list", data := .seq its.toArray n } := by
  rcases h with h | ⟨o, its, n, hk, _⟩
  · exact Rd.ok (P := X.prog) (w := X.w) h I.hok
  · cases hk
section
variable {X : Cx}
def fAdd : PyData → PyData → Option PyData
  | .int i, .int j => some (.int (i + j))
  | .int i, .bool k => some (.int (i + PyProof.Rows.b2i k))
  | .str x, .str y => if x.length + y.length ≤ 16777216 then some (.str (x ++ y)) else none
  | .list xs, .list ys => if xs.length + ys.length ≤ 16777216 then some (.list (xs ++ ys)) else none
  | .tuple xs, .tuple ys => if xs.length + ys.length ≤ 16777216 ∧ isMv (xs ++ ys) = false then some (.tuple (xs ++ ys)) else none
  | _, _ => none
theorem oAdd : OpR X (binaryOp .Add) (rD fAdd) := by
  intro pins s σ H x y v u Q I rx ry h
  obtain ⟨C, a, b, d, e, sm, da, db, q⟩ := h
  cases da with
  | int i =>
    cases db with
    | int j =>
      cases e
      exact op_add pins s σ H _ _ v u Q I rx ry ⟨i, j, rfl, rfl, q _ C H (Ext.refl sm) (.int _)⟩
    | bl k =>
      cases e
      exact op_add_ib pins s σ H _ _ v u Q I rx ry ⟨i, k, rfl, rfl, q _ C H (Ext.refl sm) (.int _)⟩
    | _ => cases e
  | str x =>
    cases db with
    | str y =>
      simp only [fAdd] at e
      split at e
      · rename_i hl
        cases e
        exact op_add_str pins s σ H _ _ v u Q I rx ry ⟨x, y, rfl, rfl, lineLe hl, q _ C H (Ext.refl sm) (.str _)⟩
      · cases e
    | _ => cases e
  | @lst a xs ds hs hd =>
    cases db with
    | @lst b ys es ht he =>
      simp only [fAdd] at e
      split at e
      · rename_i hl
        cases e
        cases rx
        cases ry
        obtain ⟨z1, its, n, r1, e1⟩ := rdL I (sm.seq hs)
        obtain ⟨z2, its2, n2, r2, e2⟩ := rdL I (sm.seq ht)
        have l1 := r1.length
        have l2 := r2.length
        have l3 := dpaLen hd
        have l4 := dpaLen he
        refine PySem.P.add_list e1 e2 ?_ (by rw [List.size_toArray, List.size_toArray]; exact lineLe (by omega))
        have ea : its.toArray ++ its2.toArray = (its ++ its2).toArray := by simp
        rw [ea]
        have hn := I.fresh
        obtain ⟨x1, x2⟩ := coldL sm hn (dpaApp hd he)
        exact ⟨.ref _, _, I.lnew (t' := s.toks) (r1.append r2) (by rw [List.length_append]; exact lineLe (by omega)), rfl, q _ _ _ x1 x2⟩
      · cases e
    | _ => cases e
  | @tup a xs ds hs hd =>
    cases db with
    | @tup b ys es ht he =>
      simp only [fAdd] at e
      split at e
      · rename_i hl
        cases e
        have l3 := dpaLen hd
        have l4 := dpaLen he
        obtain ⟨hl, hmv⟩ := hl
        refine op_catA pins s σ H _ _ v u Q I rx ry ⟨a, b, xs, ys, rfl, rfl, upT (sameT sm hs), upT (sameT sm ht), lineLe (by omega), fun z => ?_, fun _ z => ?_, fun _ _ p hn => ?_⟩
        · subst z
          cases hd
          exact q _ C H (Ext.refl sm) (.tup ht he)
        · subst z
          cases he
          rw [List.append_nil] at q
          exact q _ C H (Ext.refl sm) (.tup hs hd)
        · obtain ⟨x1, x2⟩ := coldT sm hn (dpaApp hd he) hmv
          exact q _ _ _ x1 x2
      · cases e
    | _ => cases e
  | _ => cases e
def fSub : PyData → PyData → Option PyData
  | .int i, .int j => some (.int (i - j))
  | _, _ => none
theorem oSub : OpR X (binaryOp .Sub) (rD fSub) := by
  intro pins s σ H x y v u Q I rx ry h
  obtain ⟨C, a, b, d, e, sm, da, db, q⟩ := h
  cases da with
  | int i =>
    cases db with
    | int j =>
      cases e
      exact op_sub pins s σ H _ _ v u Q I rx ry ⟨i, j, rfl, rfl, q _ C H (Ext.refl sm) (.int _)⟩
    | _ => cases e
  | _ => cases e
/-- a factor between -2 ^ 64 and 2 ^ 64 -/
def fMul : PyData → PyData → Option PyData
  | .int i, .int j => if (-(2 ^ 64) < i ∧ i < 2 ^ 64) ∨ (-(2 ^ 64) < j ∧ j < 2 ^ 64) then some (.int (i * j)) else none
  | .tuple xs, .int k => if xs ≠ [] ∧ 0 ≤ k ∧ k ≤ 1000 ∧ xs.length ≤ 1000 ∧ isMv (List.replicate k.toNat xs).flatten = false then some (.tuple (List.replicate k.toNat xs).flatten) else none
  | _, _ => none
theorem dpaRep {K : PySem.W.Frag} {C : Hp} {vs : List V} {ds : List PyData} (h : DpAll K C vs ds) : ∀ n : Nat, DpAll K C (List.replicate n vs).flatten (List.replicate n ds).flatten
  | 0 => .nil
  | n + 1 => by
    rw [List.replicate_succ, List.replicate_succ, List.flatten_cons, List.flatten_cons]
    exact dpaApp h (dpaRep h n)
theorem mulOnce (l : Addr) (items : Array Value) (n : Nat) (dd : Option Addr) (sl : Array (Option Value)) (u : Tok) :
    Meets (Builtin.«tuple.__mul__» ⟨[.ref l, .int 1 u], []⟩) (fun _ R s => s.heap.get? l = some { cls := .type "tuple", dict := dd, data := .seq items n, slots := sl } ∧ R (.ok (.ret (Value.ref l))) s) :=
  .of_wp fun prog w A R s h => by
    obtain ⟨hp, g, d, tk, os⟩ := s
    obtain ⟨there, h⟩ := h
    have ix := AutoSeq1.idx_int
    wp_walk using wpAny_loadPart' there
    exact ⟨_, rfl, h⟩
theorem opOnce {X : Cx} {pins : List (Addr × Obj)} {s : Shared} {σ : L2.St} {H : Hp} {l : Addr} {xs : List V} {v u : Value} {Q : VK} (I : Inv X pins σ H s) (rx : RelV (.ref l) v) (ry : RelV (.int 1) u) (hT : SqT X.K H l xs) (q : Q (.ref l) H) :
    wpAny (model X.prog X.w) X.A (binaryOp .Mult v u) (EP X pins σ Q) X.xe s := by
  cases rx
  obtain ⟨t, rfl⟩ := ry
  obtain ⟨its, r, ⟨⟨cls, dd, data, sl⟩, ho, hc, n, hd⟩, hs⟩ := I.tuple hT
  dsimp only at hc hd
  subst hc hd
  exact wpAny_binaryOp_repeat_ref (T := "tuple") (U := "int") (by decide) ⟨_, ho, rfl⟩ (fun s' => typeIs_int s' 1 t) noFill_tuple_mul F.fills_int_mul F.slot_int_rmul repeat_tuple F.slot_int_index.lookup
    (call_meets F.slot_int_rmul (typeIs_int s 1 t) F.entry_int_rmul (F.args_int_rmul_2 _ _) (int_rmul_tuple 1 t l its.toArray n dd sl)
      ⟨ho, rfl, ⟨_, ho, rfl⟩, call_meets F.slot_tuple_mul ⟨_, ho, rfl⟩ F.entry_tuple_mul (F.args_tuple_mul_2 _ _) (mulOnce l its.toArray n dd sl t) ⟨ho, .ref l, H, I, rfl, q⟩⟩)
theorem mulNone (l : Addr) (items : Array Value) (n : Nat) (dd : Option Addr) (sl : Array (Option Value)) (u : Tok) (hne : items.isEmpty = false) :
    Meets (Builtin.«tuple.__mul__» ⟨[.ref l, .int 0 u], []⟩) (fun _ R s => s.heap.get? l = some { cls := .type "tuple", dict := dd, data := .seq items n, slots := sl } ∧ R (.ok (.ret (Value.ref s.heap.objs.size))) { s with heap := s.heap.push { cls := Value.type "tuple", data := Data.seq #[] }, toks := s.toks }) :=
  .of_wp fun prog w A R s h => by
    obtain ⟨hp, g, d, tk, os⟩ := s
    obtain ⟨there, h⟩ := h
    have ix := AutoSeq1.idx_int
    wp_walk using wpAny_loadPart' there
    exact ⟨_, rfl, h⟩
theorem opNone {X : Cx} {pins : List (Addr × Obj)} {s : Shared} {σ : L2.St} {H : Hp} {l : Addr} {xs : List V} {v u : Value} {Q : VK} (I : Inv X pins σ H s) (rx : RelV (.ref l) v) (ry : RelV (.int 0) u) (hT : SqT X.K H l xs) (hne : xs ≠ []) (q : ∀ p, H p = none → Q (.ref p) (upd H p (.tup []))) :
    wpAny (model X.prog X.w) X.A (binaryOp .Mult v u) (EP X pins σ Q) X.xe s := by
  cases rx
  obtain ⟨t, rfl⟩ := ry
  obtain ⟨its, r, ⟨⟨cls, dd, data, sl⟩, ho, hc, n, hd⟩, hs⟩ := I.tuple hT
  dsimp only at hc hd
  subst hc hd
  have hne' : its.toArray.isEmpty = false := by
    cases its with
    | nil =>
      cases r
      exact absurd rfl hne
    | cons a t => rfl
  have hf : H s.heap.objs.size = none := I.hok.fresh (Nat.le_refl _)
  exact wpAny_binaryOp_repeat_ref (T := "tuple") (U := "int") (by decide) ⟨_, ho, rfl⟩ (fun s' => typeIs_int s' 0 t) noFill_tuple_mul F.fills_int_mul F.slot_int_rmul repeat_tuple F.slot_int_index.lookup
    (call_meets F.slot_int_rmul (typeIs_int s 0 t) F.entry_int_rmul (F.args_int_rmul_2 _ _) (int_rmul_tuple 0 t l its.toArray n dd sl)
      ⟨ho, rfl, ⟨_, ho, rfl⟩, call_meets F.slot_tuple_mul ⟨_, ho, rfl⟩ F.entry_tuple_mul (F.args_tuple_mul_2 _ _) (mulNone l its.toArray n dd sl t hne') ⟨ho, .ref s.heap.objs.size, upd H s.heap.objs.size (.tup []),
        I.laid (t' := s.toks) (fun b o e => Heap.get?_push_of_some _ e) (Nat.le_refl _) ⟨by rw [sizeLine_eq]; simp, [], .nil, ⟨_, Heap.get?_push_size _ rfl, rfl, _, rfl⟩⟩, rfl, q _ hf⟩⟩)
theorem oMul : OpR X (binaryOp .Mult) (rD fMul) := by
  intro pins s σ H x y v u Q I rx ry h
  obtain ⟨C, a, b, d, e, sm, da, db, q⟩ := h
  cases da with
  | int i =>
    cases db with
    | int j =>
      simp only [fMul] at e
      split at e
      · rename_i hc
        cases e
        exact op_mul pins s σ H _ _ v u Q I rx ry ⟨i, j, rfl, rfl, hc, q _ C H (Ext.refl sm) (.int _)⟩
      · cases e
    | _ => cases e
  | @tup a xs ds hs hd =>
    cases db with
    | int k =>
      simp only [fMul] at e
      split at e
      · rename_i hc
        cases e
        have l3 := dpaLen hd
        by_cases h1 : k = 1
        · subst h1
          have z : (List.replicate (1 : Int).toNat ds).flatten = ds := by simp
          rw [z] at q
          exact opOnce I rx ry (upT (sameT sm hs)) (q _ C H (Ext.refl sm) (.tup hs hd))
        by_cases h0 : k = 0
        · subst h0
          refine opNone I rx ry (upT (sameT sm hs)) (fun z => hc.1 ?_) fun p hn => ?_
          · subst z
            cases hd
            rfl
          · obtain ⟨x1, x2⟩ := coldT sm hn (.nil (K := KD) (H := C)) rfl
            exact q _ _ _ x1 x2
        refine op_repT pins s σ H _ _ v u Q I rx ry ⟨a, k, xs, rfl, rfl, upT (sameT sm hs), fun z => hc.1 ?_, by omega, hc.2.2.1, by omega, fun p hn => ?_⟩
        · subst z
          cases hd
          rfl
        · obtain ⟨x1, x2⟩ := coldT sm hn (dpaRep hd k.toNat) hc.2.2.2.2
          exact q _ _ _ x1 x2
      · cases e
    | _ => cases e
  | _ => cases e
def fDiv : PyData → PyData → Option PyData
  | .int i, .int j => if j ≠ 0 ∧ j.natAbs < 1073741824 then some (.int (i.fdiv j)) else none
  | _, _ => none
theorem oDiv : OpR X (binaryOp .FloorDiv) (rD fDiv) := by
  intro pins s σ H x y v u Q I rx ry h
  obtain ⟨C, a, b, d, e, sm, da, db, q⟩ := h
  cases da with
  | int i =>
    cases db with
    | int j =>
      simp only [fDiv] at e
      split at e
      · rename_i hc
        cases e
        exact op_fdivN pins s σ H _ _ v u Q I rx ry ⟨i, j, rfl, rfl, hc, q _ C H (Ext.refl sm) (.int _)⟩
      · cases e
    | _ => cases e
  | _ => cases e
def fMod : PyData → PyData → Option PyData
  | .int i, .int j => if j ≠ 0 then some (.int (i.fmod j)) else none
  | _, _ => none
theorem oMod : OpR X (binaryOp .Mod) (rD fMod) := by
  intro pins s σ H x y v u Q I rx ry h
  obtain ⟨C, a, b, d, e, sm, da, db, q⟩ := h
  cases da with
  | int i =>
    cases db with
    | int j =>
      simp only [fMod] at e
      split at e
      · rename_i hc
        cases e
        exact op_modN pins s σ H _ _ v u Q I rx ry ⟨i, j, rfl, rfl, hc, q _ C H (Ext.refl sm) (.int _)⟩
      · cases e
    | _ => cases e
  | _ => cases e
def fPow : PyData → PyData → Option PyData
  | .int i, .int j => if 0 ≤ j ∧ j ≤ 1000000 ∧ i.natAbs < 2 ^ 64 then some (.int (i ^ j.toNat)) else none
  | _, _ => none
theorem oPow : OpR X (binaryOp .Pow) (rD fPow) := by
  intro pins s σ H x y v u Q I rx ry h
  obtain ⟨C, a, b, d, e, sm, da, db, q⟩ := h
  cases da with
  | int i =>
    cases db with
    | int j =>
      simp only [fPow] at e
      split at e
      · rename_i hc
        cases e
        exact op_pow pins s σ H _ _ v u Q I rx ry ⟨i, j, rfl, rfl, hc, q _ C H (Ext.refl sm) (.int _)⟩
      · cases e
    | _ => cases e
  | _ => cases e

/-! ### comparisons -/
theorem fBOk {f : PyData → PyData → Option Bool} {a b d : PyData} (e : fB f a b = some d) : ∃ k, f a b = some k ∧ d = .bool k := by
  unfold fB at e
  obtain ⟨k, h1, h2⟩ := Option.map_eq_some_iff.mp e
  exact ⟨k, h1, h2.symm⟩
def cEq : PyData → PyData → Option Bool := fun a b => if SeqAt.shaped a = true ∧ SeqAt.shaped b = true then some (PyData.eqv a b) else none
def cNe : PyData → PyData → Option Bool := fun a b => if SeqAt.shaped a = true ∧ SeqAt.shaped b = true then some (!PyData.eqv a b) else none
theorem oEq (hu : X.A.units + 64 < cLine) : OpR X (compareOp .Eq) (rD (fB cEq)) := by
  intro pins s σ H x y v u Q I rx ry h
  obtain ⟨C, a, b, d, e, sm, da, db, q⟩ := h
  obtain ⟨k, e1, ed⟩ := fBOk e
  subst ed
  replace e := e1
  clear e1
  unfold cEq at e
  split at e
  · rename_i hc
    cases e
    exact op_eqD hu pins s σ H _ _ v u Q I rx ry ⟨a, b, dpUp (dpMono sm da), dpUp (dpMono sm db), hc.1, hc.2, q _ C H (Ext.refl sm) (.bl _)⟩
  · cases e
theorem oNe (hu : X.A.units + 64 < cLine) : OpR X (compareOp .NotEq) (rD (fB cNe)) := by
  intro pins s σ H x y v u Q I rx ry h
  obtain ⟨C, a, b, d, e, sm, da, db, q⟩ := h
  obtain ⟨k, e1, ed⟩ := fBOk e
  subst ed
  replace e := e1
  clear e1
  unfold cNe at e
  split at e
  · rename_i hc
    cases e
    exact op_neD hu pins s σ H _ _ v u Q I rx ry ⟨a, b, dpUp (dpMono sm da), dpUp (dpMono sm db), hc.1, hc.2, q _ C H (Ext.refl sm) (.bl _)⟩
  · cases e
def intsOf : List PyData → Option (List Int)
  | [] => some []
  | .int i :: ds => (intsOf ds).map (i :: ·)
  | _ :: _ => none
theorem intsOk {C : Hp} : ∀ {ds : List PyData} {vs : List V} {ns : List Int}, DpAll KD C vs ds → intsOf ds = some ns → vs = ns.map V.int ∧ ds = ns.map PyData.int
  | [], _, _, h, e => by
    cases h
    cases e
    exact ⟨rfl, rfl⟩
  | d :: ds, _, ns, .cons h hs, e => by
    cases h with
    | int i =>
      simp only [intsOf, Option.map_eq_some_iff] at e
      obtain ⟨ms, e1, rfl⟩ := e
      obtain ⟨h1, h2⟩ := intsOk hs e1
      exact ⟨by rw [h1]; rfl, by rw [h2]; rfl⟩
    | _ => cases e
def cLt : PyData → PyData → Option Bool
  | .int i, .int j => some (decide (i < j))
  | .str x, .str y => some (decide (x.cps.toList < y.cps.toList))
  | .tuple xs, .tuple ys => match intsOf xs, intsOf ys with
    | some ns, some ms => some (HT.lexLt ns ms)
    | _, _ => none
  | _, _ => none
theorem oLt (hu : X.A.units + 64 < cLine) : OpR X (compareOp .Lt) (rD (fB cLt)) := by
  intro pins s σ H x y v u Q I rx ry h
  obtain ⟨C, a, b, d, e, sm, da, db, q⟩ := h
  obtain ⟨k, e1, ed⟩ := fBOk e
  subst ed
  replace e := e1
  clear e1
  cases da with
  | int i =>
    cases db with
    | int j =>
      cases e
      exact op_lt pins s σ H _ _ v u Q I rx ry ⟨i, j, rfl, rfl, q _ C H (Ext.refl sm) (.bl _)⟩
    | _ => cases e
  | str i =>
    cases db with
    | str j =>
      cases e
      exact op_lt_str pins s σ H _ _ v u Q I rx ry ⟨i, j, rfl, rfl, q _ C H (Ext.refl sm) (.bl _)⟩
    | _ => cases e
  | @tup a xs ds hs hd =>
    cases db with
    | @tup b ys es ht he =>
      simp only [cLt] at e
      split at e
      · rename_i ns ms e1 e2
        cases e
        obtain ⟨rfl, _⟩ := intsOk hd e1
        obtain ⟨rfl, _⟩ := intsOk he e2
        exact op_ltT (by omega) pins s σ H _ _ v u Q I rx ry ⟨a, b, ns, ms, rfl, rfl, upT (sameT sm hs), upT (sameT sm ht), q _ C H (Ext.refl sm) (.bl _)⟩
      · cases e
    | _ => cases e
  | _ => cases e
def cInt (p : Int → Int → Bool) : PyData → PyData → Option Bool
  | .int i, .int j => some (p i j)
  | _, _ => none
abbrev cLe := cInt fun i j => decide (i ≤ j)
abbrev cGt := cInt fun i j => decide (j < i)
abbrev cGe := cInt fun i j => decide (j ≤ i)
theorem oInt {op : CmpOp} {p : Int → Int → Bool} (ho : OpR X (compareOp op) (rI0 fun i j => .bl (p i j))) : OpR X (compareOp op) (rD (fB (cInt p))) := by
  intro pins s σ H x y v u Q I rx ry h
  obtain ⟨C, a, b, d, e, sm, da, db, q⟩ := h
  obtain ⟨k, e1, ed⟩ := fBOk e
  subst ed
  replace e := e1
  clear e1
  cases da with
  | int i =>
    cases db with
    | int j =>
      cases e
      exact ho pins s σ H _ _ v u Q I rx ry ⟨i, j, rfl, rfl, q _ C H (Ext.refl sm) (.bl _)⟩
    | _ => cases e
  | _ => cases e
theorem oLe : OpR X (compareOp .LtE) (rD (fB cLe)) := oInt op_le
theorem oGt : OpR X (compareOp .Gt) (rD (fB cGt)) := oInt op_gt
theorem oGe : OpR X (compareOp .GtE) (rD (fB cGe)) := oInt op_ge
/-- x in xs -/
def cIn : PyData → PyData → Option Bool
  | d, .list ds => if SeqAt.shaped d = true ∧ SeqAt.shaped (.list ds) = true then some (ds.any fun z => PyData.eqv z d) else none
  | d, .tuple ds => if SeqAt.shaped d = true ∧ SeqAt.shaped (.tuple ds) = true then some (ds.any fun z => PyData.eqv z d) else none
  | _, _ => none
def cNotIn : PyData → PyData → Option Bool := fun a b => (cIn a b).map not
theorem inRoom {A : Around} {d : PyData} {n : Nat} (h : SeqAt.shaped d = true) (hu : A.units + 65 < cLine) : A.units + 1 + min n d.depth < cLine := by
  have := SeqAt.depth_of_shaped h
  omega
theorem oIn (hu : X.A.units + 65 < cLine) : OpR X (compareOp .In) (rD (fB cIn)) := by
  intro pins s σ H x y v u Q I rx ry h
  obtain ⟨C, a, b, d, e, sm, da, db, q⟩ := h
  obtain ⟨k, e1, ed⟩ := fBOk e
  subst ed
  replace e := e1
  clear e1
  obtain ⟨as, r1⟩ := Dp.reads I a x v (dpUp (dpMono sm da)) rx
  obtain ⟨bs, r2⟩ := Dp.reads I b y u (dpUp (dpMono sm db)) ry
  cases db with
  | lst hs hd =>
    simp only [cIn] at e
    split at e
    · rename_i hc
      cases e
      exact SeqAt.in_list_reads r2 r1 (SeqAt.canLay_of_shaped hc.2) (SeqAt.canLay_of_shaped hc.1) (inRoom hc.1 hu) ⟨.bl _, H, I, rfl, q _ C H (Ext.refl sm) (.bl _)⟩
    · cases e
  | tup hs hd =>
    simp only [cIn] at e
    split at e
    · rename_i hc
      cases e
      exact SeqAt.in_tuple_reads r2 r1 (SeqAt.canLay_of_shaped hc.2) (SeqAt.canLay_of_shaped hc.1) (inRoom hc.1 hu) ⟨.bl _, H, I, rfl, q _ C H (Ext.refl sm) (.bl _)⟩
    · cases e
  | _ => cases a <;> cases e
theorem oNotIn (hu : X.A.units + 65 < cLine) : OpR X (compareOp .NotIn) (rD (fB cNotIn)) := by
  intro pins s σ H x y v u Q I rx ry h
  obtain ⟨C, a, b, d, e, sm, da, db, q⟩ := h
  obtain ⟨k, e1, ed⟩ := fBOk e
  subst ed
  replace e := e1
  clear e1
  obtain ⟨k', e1, ed⟩ := Option.map_eq_some_iff.mp e
  subst ed
  replace e := e1
  clear e1
  obtain ⟨as, r1⟩ := Dp.reads I a x v (dpUp (dpMono sm da)) rx
  obtain ⟨bs, r2⟩ := Dp.reads I b y u (dpUp (dpMono sm db)) ry
  cases db with
  | lst hs hd =>
    simp only [cIn] at e
    split at e
    · rename_i hc
      cases e
      exact SeqAt.notIn_list_reads r2 r1 (SeqAt.canLay_of_shaped hc.2) (SeqAt.canLay_of_shaped hc.1) (inRoom hc.1 hu) ⟨.bl _, H, I, rfl, q _ C H (Ext.refl sm) (.bl _)⟩
    · cases e
  | tup hs hd =>
    simp only [cIn] at e
    split at e
    · rename_i hc
      cases e
      exact SeqAt.notIn_tuple_reads r2 r1 (SeqAt.canLay_of_shaped hc.2) (SeqAt.canLay_of_shaped hc.1) (inRoom hc.1 hu) ⟨.bl _, H, I, rfl, q _ C H (Ext.refl sm) (.bl _)⟩
    · cases e
  | _ => cases a <;> cases e

/-! ### items -/
def fIx : PyData → PyData → Option PyData
  | .list ds, .int i => atI ds i
  | .tuple ds, .int i => atI ds i
  | .str z, .int i => if z.length ≤ 16777216 then (atI z.cps.toList i).map fun c => .str ⟨#[c]⟩ else none
  | _, _ => none
theorem atOk {K : PySem.W.Frag} {C : Hp} {vs : List V} {ds : List PyData} {i : Int} {d : PyData} (h : DpAll K C vs ds) (e : atI ds i = some d) : ∃ v, atI vs i = some v ∧ Dp K C v d := by
  unfold atI at e ⊢
  rw [dpaLen h]
  cases e2 : ixN ds.length i with
  | none =>
    rw [e2] at e
    cases e
  | some j =>
    rw [e2] at e
    exact dpaGet h e
theorem oIx : IxR X (rD fIx) := by
  intro value slice pins s σ H x y v u Q I rx ry h hsub
  obtain ⟨C, a, b, d, e, sm, da, db, q⟩ := h
  cases da with
  | @lst p vs ds hs hd =>
    cases db with
    | int i =>
      obtain ⟨w, e1, e2⟩ := atOk hd e
      exact ix_list value slice pins s σ H _ _ v u Q I rx ry ⟨p, vs, i, w, rfl, rfl, upL (sm.seq hs), e1, q _ C H (Ext.refl sm) e2⟩ hsub
    | _ => cases e
  | @tup p vs ds hs hd =>
    cases db with
    | int i =>
      obtain ⟨w, e1, e2⟩ := atOk hd e
      exact ix_tup value slice pins s σ H _ _ v u Q I rx ry ⟨p, vs, i, w, rfl, rfl, upT (sameT sm hs), e1, q _ C H (Ext.refl sm) e2⟩ hsub
    | _ => cases e
  | str z =>
    cases db with
    | int i =>
      simp only [fIx] at e
      split at e
      · rename_i hl
        obtain ⟨c, e1, rfl⟩ := Option.map_eq_some_iff.mp e
        exact ix_str value slice pins s σ H _ _ v u Q I rx ry ⟨z, i, c, rfl, rfl, lineLe hl, e1, q _ C H (Ext.refl sm) (.str _)⟩ hsub
      · cases e
    | _ => cases e
  | _ => cases e

/-! ### what is built in -/
def bLen : List PyData → Option PyData
  | [.list ds] => some (.int (ds.length : Nat))
  | [.tuple ds] => some (.int (ds.length : Nat))
  | _ => none
theorem kLen : CallR X (.builtin "len") (rDs bLen) := by
  intro pins s σ H xs us Q I r h
  obtain ⟨C, ds, d, e, sm, da, q⟩ := h
  cases da with
  | nil => cases e
  | cons d1 d2 =>
    cases d2 with
    | cons _ _ => cases d1 <;> cases e
    | nil =>
      cases d1 with
      | @lst p vs ds hs hd =>
        cases e
        rw [← dpaLen hd] at q
        exact call_len_seq pins s σ H _ us Q I r ⟨p, vs, rfl, .inl (upL (sm.seq hs)), q _ C H (Ext.refl sm) (.int _)⟩
      | @tup p vs ds hs hd =>
        cases e
        rw [← dpaLen hd] at q
        exact call_len_seq pins s σ H _ us Q I r ⟨p, vs, rfl, .inr (upT (sameT sm hs)), q _ C H (Ext.refl sm) (.int _)⟩
      | _ => cases e
def bInt : List PyData → Option PyData
  | [.int i] => some (.int i)
  | [.bool k] => some (.int (if k then 1 else 0))
  | _ => none
theorem kInt : CallR X (.type "int") (rDs bInt) := by
  intro pins s σ H xs us Q I r h
  obtain ⟨C, ds, d, e, sm, da, q⟩ := h
  cases da with
  | nil => cases e
  | cons d1 d2 =>
    cases d2 with
    | cons _ _ => cases d1 <;> cases e
    | nil =>
      cases d1 with
      | int i =>
        cases e
        exact call_int1 pins s σ H _ us Q I r (.inl ⟨i, rfl, q _ C H (Ext.refl sm) (.int _)⟩)
      | bl k =>
        cases e
        exact call_int1 pins s σ H _ us Q I r (.inr ⟨k, rfl, q _ C H (Ext.refl sm) (.int _)⟩)
      | _ => cases e
def bMax : List PyData → Option PyData
  | [.int i, .int j] => some (.int (if j > i then j else i))
  | _ => none
theorem kMax (hc : X.calm = true) : CallR X (.builtin "max") (rDs bMax) := by
  intro pins s σ H xs us Q I r h
  obtain ⟨C, ds, d, e, sm, da, q⟩ := h
  cases da with
  | nil => cases e
  | cons d1 d2 =>
    cases d2 with
    | nil => cases d1 <;> cases e
    | cons d2 d3 =>
      cases d3 with
      | cons _ _ => cases d1 <;> cases d2 <;> cases e
      | nil =>
        cases d1 with
        | int i =>
          cases d2 with
          | int j =>
            cases e
            exact call_max2 hc pins s σ H _ us Q I r ⟨i, j, rfl, q _ C H (Ext.refl sm) (.int _)⟩
          | _ => cases e
        | _ => cases d2 <;> cases e
def bMin : List PyData → Option PyData
  | [.int i, .int j] => some (.int (if j < i then j else i))
  | _ => none
theorem kMin (hc : X.calm = true) : CallR X (.builtin "min") (rDs bMin) := by
  intro pins s σ H xs us Q I r h
  obtain ⟨C, ds, d, e, sm, da, q⟩ := h
  cases da with
  | nil => cases e
  | cons d1 d2 =>
    cases d2 with
    | nil => cases d1 <;> cases e
    | cons d2 d3 =>
      cases d3 with
      | cons _ _ => cases d1 <;> cases d2 <;> cases e
      | nil =>
        cases d1 with
        | int i =>
          cases d2 with
          | int j =>
            cases e
            exact call_min2 hc pins s σ H _ us Q I r ⟨i, j, rfl, q _ C H (Ext.refl sm) (.int _)⟩
          | _ => cases e
        | _ => cases d2 <;> cases e
def bTup : List PyData → Option PyData
  | [.list ds] => some (.tuple ds)
  | [.tuple ds] => some (.tuple ds)
  | _ => none
theorem kTup : CallR X (.type "tuple") (rDs bTup) := by
  intro pins s σ H xs us Q I r h
  obtain ⟨C, ds, d, e, sm, da, q⟩ := h
  cases da with
  | nil => cases e
  | cons d1 d2 =>
    cases d2 with
    | cons _ _ => cases d1 <;> cases e
    | nil =>
      cases d1 with
      | @lst p vs ds hs hd =>
        cases e
        refine call_tuple_ofB pins s σ H _ us Q I r ⟨p, vs, rfl, .inl ⟨upL (sm.seq hs), fun l o ho hn => ?_⟩⟩
        obtain ⟨x1, x2⟩ := coldB sm hn ho hd
        exact q _ _ _ x1 x2
      | @tup p vs ds hs hd =>
        cases e
        exact call_tuple_ofB pins s σ H _ us Q I r ⟨p, vs, rfl, .inr ⟨upT (sameT sm hs), q _ C H (Ext.refl sm) (.tup hs hd)⟩⟩
      | _ => cases e
def bLst : List PyData → Option PyData
  | [.list ds] => some (.list ds)
  | [.tuple ds] => some (.list ds)
  | _ => none
theorem kLst : CallR X (.type "list") (rDs bLst) := by
  intro pins s σ H xs us Q I r h
  obtain ⟨C, ds, d, e, sm, da, q⟩ := h
  cases da with
  | nil => cases e
  | cons d1 d2 =>
    cases d2 with
    | cons _ _ => cases d1 <;> cases e
    | nil =>
      cases d1 with
      | @lst p vs ds hs hd =>
        cases e
        refine call_list_of pins s σ H _ us Q I r ⟨p, vs, rfl, .inl (upL (sm.seq hs)), fun l hn => ?_⟩
        obtain ⟨x1, x2⟩ := coldL sm hn hd
        exact q _ _ _ x1 x2
      | @tup p vs ds hs hd =>
        cases e
        refine call_list_of pins s σ H _ us Q I r ⟨p, vs, rfl, .inr (upT (sameT sm hs)), fun l hn => ?_⟩
        obtain ⟨x1, x2⟩ := coldL sm hn hd
        exact q _ _ _ x1 x2
      | _ => cases e
/-- repr -/
def bRepr : List PyData → Option PyData
  | [.bool b] => some (.str (if b then "True" else "False"))
  | [.none] => some (.str "None")
  | [.int i] => if i.natAbs.log2 < 1920 then some (.str (toString i)) else none
  | [.list ds] => if (PyData.list ds).showable = true ∧ (PyData.list ds).hasDict = false ∧ (PyData.list ds).depth ≤ 64 ∧ (PyData.list ds).shown.length ≤ 16777216 then some (.str (PyData.list ds).shown) else none
  | [.tuple ds] => if (PyData.tuple ds).showable = true ∧ (PyData.tuple ds).hasDict = false ∧ (PyData.tuple ds).depth ≤ 64 ∧ (PyData.tuple ds).shown.length ≤ 16777216 then some (.str (PyData.tuple ds).shown) else none
  | _ => none
theorem kReprRef (hG : X.A.guards = some []) (hu : X.A.units + 80 < cLine) {pins : List (Addr × Obj)} {s : Shared} {σ : L2.St} {H C : Hp} {a : Addr} {us : List Value} {Q : VK} {d : PyData} (I : Inv X pins σ H s) (r : Vals [.ref a] us) (sm : Same C H) (dd : Dp KD C (.ref a) d)
    (hc : d.showable = true ∧ d.hasDict = false ∧ d.depth ≤ 64 ∧ d.shown.length ≤ 16777216) (q : Q (.str d.shown) H) : wpAny (model X.prog X.w) X.A (call (.builtin "repr") us) (EP X pins σ Q) X.xe s := by
  have e1 := Vals.ref1 r
  subst e1
  obtain ⟨as, rd⟩ := Dp.reads I d (.ref a) (.ref a) (dpUp (dpMono sm dd)) rfl
  exact PySem.repr_of_reads' rd hc.1 (PyData.noDict_hsm hc.2.1) hG (by omega) (fun _ _ e => e) (fun h' u tk hk => ⟨.str d.shown, H, I.kept hk, ⟨u, rfl⟩, q⟩) (lineLe hc.2.2.2)
theorem kRepr (hG : X.A.guards = some []) (hu : X.A.units + 80 < cLine) : CallR X (.builtin "repr") (rDs bRepr) := by
  intro pins s σ H xs us Q I r h
  obtain ⟨C, ds, d, e, sm, da, q⟩ := h
  cases da with
  | nil => cases e
  | cons d1 d2 =>
    cases d2 with
    | cons _ _ => cases d1 <;> cases e
    | nil =>
      cases d1 with
      | non =>
        cases e
        obtain ⟨u, rfl, r1⟩ := vals1 r
        cases r1
        exact PySem.P.repr_of_none ⟨.str _, H, I.tok _, ⟨_, rfl⟩, q _ C H (Ext.refl sm) (.str _)⟩
      | bl b =>
        cases e
        obtain ⟨u, rfl, r1⟩ := vals1 r
        cases r1
        exact PySem.P.repr_of_bool ⟨.str _, H, I.tok _, ⟨_, rfl⟩, q _ C H (Ext.refl sm) (.str _)⟩
      | int i =>
        simp only [bRepr] at e
        split at e
        · rename_i hc
          cases e
          obtain ⟨u, rfl, t, rfl⟩ := vals1 r
          exact PySem.P.repr_of_int hc ⟨.str _, H, I.tok _, ⟨_, rfl⟩, q _ C H (Ext.refl sm) (.str _)⟩
        · cases e
      | @lst p vs ds hs hd =>
        simp only [bRepr] at e
        split at e
        · rename_i hc
          cases e
          exact kReprRef hG hu I r sm (.lst hs hd) hc (q _ C H (Ext.refl sm) (.str _))
        · cases e
      | @tup p vs ds hs hd =>
        simp only [bRepr] at e
        split at e
        · rename_i hc
          cases e
          exact kReprRef hG hu I r sm (.tup hs hd) hc (q _ C H (Ext.refl sm) (.str _))
        · cases e
      | _ => cases e
end
end Dn
set_option maxHeartbeats 4000000
namespace PySem
namespace WhX
open PySem.W PySem.Calls PyProof.Rows PySem.HandSPX
/-! ### the text of __init__ -/
def iA (p1 p2 : Pos) : Arguments := { posonlyargs := [], args := [{ arg := "self", annotation := none, pos := p1 }, { arg := "what", annotation := none, pos := p2 }], vararg := none, kwonlyargs := [], kw_defaults := [], kwarg := none, defaults := [] }
def iB (q1 q2 q3 q4 r1 r2 r3 r4 r5 r6 : Pos) : List Stmt := [.Assign [.Attribute (.Name "self" q1) "what" q2] (.Name "what" q3) q4, .Assign [.Attribute (.Name "self" r1) "kind" r2] (.Attribute (.Attribute (.Name "self" r3) "__class__" r4) "__name__" r5) r6]
def iS : Scope := { kind := .function, names := [(PySem.Str.ofString "self", .local), (PySem.Str.ofString "what", .local)], isGenerator := false, isCoroutine := false, more := [] }
/-- what the written part says of Low, at C, and of its __init__, at fI -/
structure WhTxt (K : Frag) (mg : Str → Option Value) (nmC : Str) (C fI : Addr) : Prop where
  gC : mg nmC = some (.ref C)
  cls : ∃ nm q N bs bm sn sub ab col dd k0 k1 kn kt k3 k5, K.lookup C = some (excClassObj nm q C N bs bm true sn sub ab col dd k0 k1 (some (.str kn kt)) k3 k5 "ValueError.__new__") ∧ refsVE bm = true
  sa : findIn K (.ref C) "__setattr__" = some (some (.builtin "object.__setattr__"))
  ga : findIn K (.ref C) "__getattribute__" = some (some (.builtin "BaseException.__getattribute__"))
  gg : findIn K (.ref C) "__getattr__" = some none
  noN : findIn K (.ref C) "what" = some none
  noK : findIn K (.ref C) "kind" = some none
  clA : findIn K (.ref C) "__class__" = some (some (.builtin "object.__class__"))
  clG : specialIn K (.builtin "object.__class__") "__get__" = some (some (.builtin "getset_descriptor.__get__"))
  clT : takesIn K (.builtin "object.__class__") = some true
  clO : mroIn K C (.type "object") = some true
  naR : readsIn K C (.type "type") = true
  naF : findCls K (.ref C) (.type "type") "__name__" = some (.get (.builtin "getset_descriptor.__get__") (.builtin "type.__name__") (.ref C) (.type "type"))
  iC : findIn K (.ref C) "__init__" = some (some (.ref fI))
  tC : typeIn K (.ref fI) = some (.type "function")
  kC : keepIn K (.ref C) = true
  exC : subIn K (.ref C) (.type "BaseException") = some true
  tyC : typeIn K (.ref C) = some (.type "type")
  hdC : hasDictIn K C = true
  te : exmOne K (.ref C) (.ref C) = some true
  fn : ∃ (oc : Value) (od : Option Addr) (doc pm : Value) (an : Option Addr) (cdv ct : Value) (osl : Array (Option Value)) (p1 p2 q1 q2 q3 q4 r1 r2 r3 r4 r5 r6 : Pos),
    K.lookup fI = some ⟨oc, od, .func (fnOf "__init__" "Refused.__init__" (iA p1 p2) (iB q1 q2 q3 q4 r1 r2 r3 r4 r5 r6) iS .none .none doc pm an cdv ct), osl⟩ ∧ codeIn K cdv "Refused.__init__" = true
section
open Builtin Builtin.ObjectAttr Builtin.Getset_descriptor
variable {prog : Program} {w : World} {A : Around} {E : Value → Shared → Prop} {R : Result → Shared → Prop} {s : Shared} {K : Frag}
theorem dga_ref (d tp : Value) (C : Addr) : descrGetArgs ⟨[d, .ref C, tp], []⟩ = pure (d, some (.ref C), given tp) := by kernel_rfl
/-- C.__name__, C a class of the program: what it was named with -/
theorem name_get {C : Addr} {o : Obj} {tp v : Value} (X : K.In s.heap) (ht : typeIn K (.ref C) = some (.type "type")) (ho : K.lookup C = some o) (hs : o.slots[2]? = some (some v)) (h : R (.ok (.ret v)) s) :
    codeAny (model prog w) A (.call (.builtin "getset_descriptor.__get__") ⟨[.builtin "type.__name__", .ref C, tp], []⟩) R s := by
  obtain ⟨hh, g, dr, t, os⟩ := s
  have L0 : Looks (model prog w) hh (typeOf (.ref C)) (.type "type") := looks_typeIn X ht
  have L1 : Looks (model prog w) hh (isSubtype (.type "type") (.type "type")) true := Looks.of_pure (by rw [isSubtype_type]; kernel_rfl)
  refine codeAny_call_builtin KF.slot_gs.plain KF.entry_gs (KF.slot_gs.check _ _ _ _ _ _ _ _ ktyn_type (KF.args_gs _ _ _) ?_)
  unfold Builtin.«getset_descriptor.__get__» descrGet
  rw [dga_ref]
  refine wpAny_bind (wpAny_pure ?_)
  unfold descrGetter descrCheckInstance descrNameAndClass isInstance
  simp only [ktyn_owner]
  repeat lk
  refine ⟨Code.quiet_builtin _ (by decide +kernel), codeAny_builtin ktyn_entry ?_⟩
  unfold Builtin.«type.__name__»
  dsimp only
  unfold keptObject
  dsimp only
  unfold slotAt
  refine wpAny_bind (wpAny_bind (wpAny_loadPart_at (X _ _ ho) (wpAny_pure ?_)))
  rw [hs]
  exact wpAny_pure h
theorem name_attr {C : Addr} {o : Obj} {v : Value} {expr : Bool} {Q : Value → Shared → Prop} (X : K.In s.heap) (hr : readsIn K C (.type "type") = true) (hf : findCls K (.ref C) (.type "type") "__name__" = some (.get (.builtin "getset_descriptor.__get__") (.builtin "type.__name__") (.ref C) (.type "type")))
    (ht : typeIn K (.ref C) = some (.type "type")) (ho : K.lookup C = some o) (hs : o.slots[2]? = some (some v)) (hh : handedIn v = true) (h : Q v { s with toks := s.toks + 1 }) : wpAny (model prog w) A (getAttr (.ref C) "__name__" expr) Q E s := by
  refine cls_bind X hr hf ?_
  refine wpAny_call (name_get (s := { s with toks := s.toks + 1 }) X ht ho hs ?_)
  exact handed_on hh h
/-- x.__class__, x an error -/
theorem class_attr {D x : Addr} {ox : Obj} {od : Option Obj} {expr : Bool} {Q : Value → Shared → Prop} (hga : findIn K (.ref D) "__getattribute__" = some (some (.builtin "BaseException.__getattribute__"))) (hgt : findIn K (.ref D) "__getattr__" = some none) (hsub : subIn K (.ref D) (.type "BaseException") = some true)
    (hdct : hasDictIn K D = true) (ha : findIn K (.ref D) "__class__" = some (some (.builtin "object.__class__")))
    (hn : specialIn K (.builtin "object.__class__") "__get__" = some (some (.builtin "getset_descriptor.__get__"))) (htk : takesIn K (.builtin "object.__class__") = some true) (hm : mroIn K D (.type "object") = some true)
    (X : K.In s.heap) (I : InstAt s.heap x ox D od) (h : Q (.ref D) { s with toks := s.toks + 1 }) : wpAny (model prog w) A (getAttr (.ref x) "__class__" expr) Q E s := by
  have hf : findObj K D od "__class__" = some (.bind (.builtin "getset_descriptor.__get__") (.builtin "object.__class__")) := by
    obtain ⟨cdl, hcl, _⟩ := any_some hdct
    unfold findObj; rw [hcl, Option.bind_some, ha, Option.bind_some]; simp [hn, htk]
  obtain ⟨hp, g, d, t, os⟩ := s
  have L0 := I.type (M := model prog w)
  have L1 := looks_findIn (M := model prog w) X hga
  have L2 := looks_findIn (M := model prog w) X hgt
  have L3 := looks_find (M := model prog w) X I hf
  have sub : Looks (model prog w) hp (isInstance (.ref x) (.type "BaseException")) true := L0.andThen (looks_subIn X hsub)
  have hx0 : (expr && onTheHeap (Value.builtin "BaseException.__getattribute__")) = false := by cases expr <;> rfl
  have hx2 : (Value.builtin "BaseException.__getattribute__" == Value.builtin "object.__getattribute__") = false := by decide +kernel
  have hx1 : (onTheHeap (Value.ref D) && Value.builtin "BaseException.__getattribute__" == Value.builtin "object.__getattribute__") = false := by rw [hx2]; rfl
  unfold getAttr getAttrBy
  refine wpAny_bind (wpAny_mkText (wpAny_holding (wpAny_bind (L0.at (wpAny_bind (L1.at ?_))))))
  show wpAny _ _ (if (onTheHeap (Value.ref D) && Value.builtin "BaseException.__getattribute__" == Value.builtin "object.__getattribute__") = true then _ else _) _ _ _
  rw [hx1, if_neg Bool.false_ne_true]
  unfold getAttrByItsOwn hookBefore
  refine wpAny_bind ?_
  rw [if_pos (show onTheHeap (Value.ref D) = true from rfl)]
  refine L2.at ?_
  refine wpAny_bind (wpAny_attempt (wpAny_holding ?_))
  unfold callGetattribute
  rw [hx0, if_neg Bool.false_ne_true]
  unfold boundAndCalled
  rw [PySem.F.excAttr_ValueError.ga.bind (.ref x)]
  refine wpAny_bind (wpAny_pure ?_)
  show wpAny _ _ (call (.builtin "BaseException.__getattribute__") [.ref x, .str "__class__" t]) _ _ _
  refine wpAny_call (codeAny_call_builtin PySem.F.excAttr_ValueError.ga.plain PySem.F.entry_bexc_ga ?_)
  refine @check_slot (model prog w) _ _ ⟨hp, g, d, t + 1, os⟩ "BaseException.__getattribute__" "BaseException" "__getattribute__" (.ref x) [.str "__class__" t] [] _ (by decide +kernel) (by decide +kernel) sub (PySem.F.args_bexc_ga (.ref x) (.str "__class__" t)) ?_
  unfold Builtin.«object.__getattribute__»
  refine wpAny_bind (wpAny_of_eq (a := ((Value.ref x : Value), [Value.str "__class__" t])) (by first | rfl | (simp only [slotArgs]; rfl)) ?_)
  refine wpAny_bind (wpAny_pure (wpAny_bind (L0.at (wpAny_bind (L3.at ?_)))))
  show wpAny _ _ (holding [Value.builtin "object.__class__"] (call (.builtin "getset_descriptor.__get__") [.builtin "object.__class__", .ref x, .ref D]) >>= ret) _ _ _
  refine wpAny_bind (wpAny_holding (wpAny_call (class_get (s := ⟨hp, g, d, t + 1, os⟩) (ox := ox) (od := od) X I hm ?_)))
  refine wpAny_pure ?_
  show wpAny _ _ (handedOut (.ref D)) _ _ _
  rw [handedOut_of (v := .ref D) rfl]
  first
    | exact wpAny_pure h
    | exact wpAny_pure (wpAny_pure h)
    | exact wpAny_pure (wpAny_bind (wpAny_pure (wpAny_pure h)))
end
theorem one_size (v : Value) : [v].length ≤ sizeLine := by
  rw [sizeLine_eq]
  exact (by decide : 1 ≤ 16777216)
theorem kept_but {K : Frag} {h h' : Heap} {x : Addr} (X : K.In h) (hx : K.lookup x = none) (k : ∀ b o, b ≠ x → h.get? b = some o → h'.get? b = some o) : K.In h' := fun a o e =>
  k a o (fun z => by rw [z, hx] at e; cases e) (X a o e)
theorem ldC {M : Model} {s : Shared} {name : Str} {scope : Scope} {L a : Addr} {cd : Value} {m : Str → Option Value} {x : Str} {pos : Pos} {v : Value} {Q : Value → Shared → Prop} {A : Around} {E : Value → Shared → Prop} (hn : s.heap.Ns L m) (hv : m x = some v) (h : Q v s)
    (hk : scope.kind = .function := by rfl) (hl : (envOfC name scope L a cd).kindOf x = some .local := by rfl) (hd : (x == ("__debug__" : Str)) = false := by decide) :
    wpAny M A (eval (.Name x pos) (envOfC name scope L a cd)) Q E s := wpAny_Name (wpAny_loadName_local hk hl hn hv h) hd
/-- what __init__ leaves of a fresh exception at x -/
structure InitEnd (h h' : Heap) (x C dx t1 : Addr) (v : Value) : Prop where
  keep : ∀ b o, b ≠ x → h.get? b = some o → h'.get? b = some o
  obj : h'.get? x = some { cls := .ref C, dict := some dx, data := .fields #[.ref t1, .none, .none, .none, .bool false, .none] }
  dbig : h.objs.size ≤ dx
  dne : dx ≠ x
  ns : ∃ mA, h'.Ns1 dx mA ∧ mA "what" = some v
/-- a made Low -/
structure OwnMade (h h' : Heap) (e C d : Addr) (v : Value) : Prop where
  keep : ∀ b o, h.get? b = some o → h'.get? b = some o
  new : h.objs.size ≤ e
  obj : ∃ oe vs, h'.get? e = some oe ∧ oe.cls = .ref C ∧ oe.dict = some d ∧ oe.data = .fields vs ∧ vs[1]? = some .none
  dbig : h.objs.size ≤ d
  dne : d ≠ e
  ns : ∃ mA, h'.Ns1 d mA ∧ mA "what" = some v
section
variable {prog : Program} {w : World} {A : Around} {E : Value → Shared → Prop} {R : Result → Shared → Prop} {s : Shared} {K : Frag} {mg : Str → Option Value} {nmC : Str} {C fI : Addr}
theorem wh_init (T : WhTxt K mg nmC C fI) {x t0 : Addr} {v : Value} (X : K.In s.heap) (hlim : s.heap.NoLimit) (hx : s.heap.get? x = some (excO C t0)) (hnx : K.lookup x = none) (hroom : A.depth < recursionLimit)
    (hq : ∀ h' tk dx, InitEnd s.heap h' x C dx t0 v → R (.ok (.ret .none)) { s with heap := h', toks := tk }) :
    codeAny (model prog w) A (.call (.ref fI) ⟨[.ref x, v], []⟩) R s := by
  obtain ⟨oc, od, doc, pm, an, cdv, ct, osl, p1, p2, q1, q2, q3, q4, r1, r2, r3, r4, r5, r6, ho, hcd⟩ := T.fn
  obtain ⟨nm, q, N, bs, bm, sn, sub, ab, col, dd, k0, k1, kn, kt, k3, k5, hC, hbm⟩ := T.cls
  have hcl : clsIn K C = some { name := nm, bases := bs, mro := .ref C :: bm, ns := N, qualname := q, hasDict := true, slotNames := sn, subclasses := sub, abstract := ab, collection := col, hasDel := false } := by unfold clsIn; rw [hC] <;> rfl
  refine Att.call_fn (binds := [("self", .ref x), ("what", v)]) X hlim ho hcd hroom (BindsTo.of_eq (by first | rfl | with_unfolding_all rfl)) (by first | rfl | decide | with_unfolding_all rfl) (fun s₁ IC => ?_) rfl rfl rfl
  obtain ⟨h₁, tk₁, rfl⟩ := IC.toInCall.same
  have k : ∀ b o, s.heap.get? b = some o → h₁.get? b = some o := IC.toInCall.keep
  have hn := IC.toInCall.ns
  have hxL : s.heap.objs.size ≠ x := Nat.ne_of_gt (Heap.lt_size hx)
  have X₁ : K.In h₁ := X.keeps k
  have hx₁ := k _ _ hx
  -- self.by = by
  show wpAny _ _ (execs _ _) _ _ _
  refine wpAny_execs_cons (plainObj_wpAny_Assign_Attribute ?_)
  refine ldC (v := v) hn (by first | rfl | with_unfolding_all rfl | kernel_rfl) (ldC (v := .ref x) hn (by first | rfl | with_unfolding_all rfl | kernel_rfl) ?_)
  refine set_plain X₁ (ox := excO C t0) (od := none) ⟨hx₁, rfl, rfl, trivial⟩ T.sa ?_
  refine exc_osa X₁ hx₁ hcl (show refsVE (.ref C :: bm) = true from hbm) rfl T.noN (fun h₃ tk₃ dx k₃ dn dne hx₃ hn₃ => ?_)
  have z : s.heap.objs.size < h₁.objs.size := hn.lt
  have X₃ : K.In h₃ := kept_but X hnx (fun b o hb e => k₃ b o hb (k b o e))
  have hnL : h₃.Ns s.heap.objs.size _ := hn.at fun o e => k₃ _ _ hxL e
  show wpAny _ _ (execs _ _) _ _ _
  refine wpAny_execs_cons (plainObj_wpAny_Assign_Attribute ?_)
  have dxL : dx < h₃.objs.size := by
    obtain ⟨o, _, _, e, _⟩ := hn₃
    exact Heap.lt_size e
  obtain ⟨oD, esD, epD, hoD, hdD, _⟩ := hn₃.count (Within.cons _ _ Within.nil)
  have I₃ : W.InstAt h₃ x { cls := .ref C, dict := some dx, data := .fields #[.ref t0, .none, .none, .none, .bool false, .none] } C (some oD) := ⟨hx₃, rfl, rfl, hoD⟩
  refine L2.attr_of rfl (L2.attr_of rfl (ldC (v := .ref x) hnL (by first | rfl | with_unfolding_all rfl | kernel_rfl) ?_))
  refine class_attr T.ga T.gg T.exC T.hdC T.clA T.clG T.clT T.clO X₃ I₃ ?_
  refine name_attr X₃ T.naR T.naF T.tyC hC rfl rfl ?_
  refine ldC (v := .ref x) hnL (by first | rfl | with_unfolding_all rfl | kernel_rfl) ?_
  refine set_plain X₃ (ox := { cls := .ref C, dict := some dx, data := .fields #[.ref t0, .none, .none, .none, .bool false, .none] }) (od := some oD) ⟨hx₃, rfl, rfl, hoD⟩ T.sa ?_
  refine OEX.osa_old X₃ hx₃ hn₃ (Within.cons _ _ Within.nil) (by decide) hcl (show refsVE (.ref C :: bm) = true from hbm) rfl T.noK (fun h₄ tk₄ k₄ hn₄ => ?_)
  show wpAny _ _ (execs _ _) _ _ _
  exact wpAny_execs_nil (hq h₄ tk₄ dx ⟨fun b o hb e => k₄ b o (Nat.ne_of_lt (Nat.lt_of_lt_of_le (Nat.lt_trans (Heap.lt_size e) z) dn)) (k₃ b o hb (k b o e)), k₄ x _ (Ne.symm dne) hx₃, Nat.le_of_lt (Nat.lt_of_lt_of_le z dn), dne, ⟨_, hn₄, rfl⟩⟩)
theorem wh_made (T : WhTxt K mg nmC C fI) {v : Value} (X : K.In s.heap) (hlim : s.heap.NoLimit) (hroom : A.depth + 1 < recursionLimit)
    (hq : ∀ h' tk e d, OwnMade s.heap h' e C d v → R (.ok (.ret (.ref e))) { s with heap := h', toks := tk }) :
    codeAny (model prog w) A (.call (.ref C) ⟨[v], []⟩) R s := by
  obtain ⟨nm, q, N, bs, bm, sn, sub, ab, col, dd, k0, k1, kn, kt, k3, k5, hC, hbm⟩ := T.cls
  obtain ⟨hp, g, dr, tk, os⟩ := s
  have k : ∀ b o, hp.get? b = some o → ((hp.push (kdv_tup [v])).push (excO C hp.objs.size)).get? b = some o := fun b o e => Heap.get?_push_of_some _ (Heap.get?_push_of_some _ e)
  have hget : ((hp.push (kdv_tup [v])).push (excO C hp.objs.size)).get? (hp.objs.size + 1) = some (excO C hp.objs.size) := by heap_get
  have hnx : K.lookup (hp.objs.size + 1) = none := by
    cases e : K.lookup (hp.objs.size + 1) with
    | none => rfl
    | some o =>
      have z : hp.get? (hp.objs.size + 1) = some o := X _ _ e
      exact absurd (Nat.lt_of_succ_lt (Heap.lt_size z)) (Nat.lt_irrefl _)
  refine call_own F.excBase_ValueError (fun X => refsVE_contains X bm hbm) (X _ _ hC) (looks_findIn X T.iC) (fun self => bind_fn X self T.tC) (one_size v) ?_
  refine wh_init (s := ⟨(hp.push (kdv_tup [v])).push (excO C hp.objs.size), g, dr, tk, os⟩) T (X.keeps k) (hlim.keeps k) hget hnx ?_ fun h' tk' dx ⟨k', hx, dn, dne, hns⟩ => ?_
  · show A.depth + 1 < recursionLimit
    exact hroom
  · have old : ∀ b o, hp.get? b = some o → h'.get? b = some o := fun b o e => k' b o (Nat.ne_of_lt (Nat.lt_succ_of_lt (Heap.lt_size e))) (k b o e)
    have z : hp.objs.size + 1 + 1 ≤ dx := by
      first
        | (simpa only [Heap.size_push] using dn)
        | exact dn
        | (have q := dn; rw [Heap.size_push, Heap.size_push] at q; exact q)
    exact ⟨rfl, hq h' tk' (hp.objs.size + 1) dx ⟨old, Nat.le_succ _, ⟨_, _, hx, rfl, rfl, rfl, rfl⟩, Nat.le_trans (Nat.le_trans (Nat.le_succ _) (Nat.le_succ _)) z, dne, hns⟩⟩
end
end WhX
end PySem
namespace L2
open PySem PySem.Spec PyProof.Rows
theorem xw_ok {P : Program} {w : World} {H : Hp} {h : Heap} {d : Addr} {v : V} {v' : Value} {mA : Str → Option Value} (hn : h.Ns1 d mA) (e : mA "what" = some v') (r : RelV v v') : ObjOk P w H h d (xw d v) := by
  obtain ⟨o, es, ep, ho, hr⟩ := hn
  exact ⟨⟨mA, ⟨o, es, ep, ho, hr⟩, by rw [e]; exact r⟩, ⟨o, ho⟩, fun h1 h2 z k => by
    obtain ⟨m2, hn2, r2⟩ := z
    exact ⟨m2, hn2.at fun o q => k _ q, r2⟩⟩
theorem xw_at {P : Program} {w : World} {H : Hp} {h : Heap} {d : Addr} {v : V} (x : ObjOk P w H h d (xw d v)) : ∃ mA, h.Ns1 d mA ∧ RelO (some v) (mA "what") := x.1
section
variable {X : Cx} {nmC : Str} {C fI : Addr}
/-- Low(e) -/
def tMkWh (C : Addr) (ta : TA) : St → Hp → XK → Prop := fun σ H Q => ta σ H fun vs H1 => ∃ v, vs = [v] ∧ ∀ d, H1 d = none → Q (.ref C) (some d) (upd H1 d (xw d v))
theorem pmk_wh {a : Expr} {ta : TA} {p pos : Pos} {k : Nat} (T : PySem.WhX.WhTxt X.K X.mg nmC C fI) (hr : Room k X.A) (ha : PA X [a] ta) (hg : Gl X nmC) (hdb : (nmC == ("__debug__" : Str)) = false)
    (he : starEach (a :: []) X.env = (false, eval a X.env) :: starEach [] X.env := by rfl) (hpl : (backTo pos (starEach [] X.env)).any (·.1) = false := by rfl) :
    PMk X (.Call (.Name nmC p) [a] [] pos) (tMkWh C ta) := by
  intro pins s σ H Q I h
  refine wpAny_Call_Name_kw (ld_glob I hg T.gC ?_ hdb)
  refine PySem.W.callWith_K (h₀ := X.base) I.ok.mod.kin T.kC (thn (ha.run pos pins s σ H _ I h) fun us s1 hh => ?_) he hpl
  obtain ⟨vs, H1, I1, r1, v, ev, q1⟩ := hh
  subst ev
  refine ⟨I1.kIn, ?_⟩
  cases r1 with
  | cons rv rn =>
    rename_i v' us'
    cases rn
    show wpAny _ _ (call (.ref C) [v']) _ _ _
    have hlim := I1.nolimit
    obtain ⟨hp, g, dr, tk, os⟩ := s1
    refine wpAny_call (PySem.WhX.wh_made T I1.kIn hlim (by have := hr.dp; omega) fun h' tk' e d M => ?_)
    show MkP X pins σ Q (.ref e) ⟨h', g, dr, tk', os⟩
    obtain ⟨oe, fv, hoe, hc, hd, hdat, h1⟩ := M.obj
    have hns := M.ns
    obtain ⟨G', g1, g2⟩ := restrict h' fun b => decide (b ≠ e)
    have gk : ∀ b, b ≠ e → G'.get? b = h'.get? b := fun b hb => g1 b (decide_eq_true hb)
    have ge : G'.get? e = none := g2 e (by simp)
    have old : ∀ b o, hp.get? b = some o → G'.get? b = some o := fun b o q => (gk b (Nat.ne_of_lt (Nat.lt_of_lt_of_le (Heap.lt_size q) M.new))).trans (M.keep b o q)
    obtain ⟨mA, hns, hw⟩ := hns
    have ob : ObjOk X.prog X.w (upd H1 d (xw d v)) G' d (xw d v) := xw_ok (hns.at (fun o q => (gk d M.dne).trans q)) hw rv
    have J : Inv X pins σ (upd H1 d (xw d v)) ⟨G', g, dr, tk', os⟩ := I1.laid (t' := tk') old M.dbig ob
    refine ⟨e, oe, fv, ⟨G', g, dr, tk', os⟩, _, .ref C, some d, rfl, J, fun b o q => ?_, ge, hoe, ⟨hc, hd⟩, hdat, h1, ?_, rfl, I1.bare, raises_own T.exC T.tyC, q1 d (I1.hok.fresh M.dbig)⟩
    · by_cases hb : b = e
      · have q' : G'.get? b = some o := q
        rw [hb, ge] at q'; cases q'
      · exact (gk b hb).symm.trans q
    · rw [upd_ne (Ne.symm M.dne)]
      exact I1.hok.fresh M.new
/-- raise Low(e) -/
def tRaiseWh (C : Addr) (W : WX) (ta : TA) : TS := fun _ σ H => tMkWh C ta σ H fun cls d H' => W cls d σ H'
theorem ps_raiseWh {a : Expr} {ta : TA} {W : WX} {p pos pos2 : Pos} {k : Nat} (hc : X.calm = true) (T : PySem.WhX.WhTxt X.K X.mg nmC C fI) (hr : Room k X.A) (tk : Takes X W) (ha : PA X [a] ta) (hg : Gl X nmC) (hdb : (nmC == ("__debug__" : Str)) = false)
    (he : starEach (a :: []) X.env = (false, eval a X.env) :: starEach [] X.env := by rfl) (hpl : (backTo pos (starEach [] X.env)).any (·.1) = false := by rfl) :
    PS X (.Raise (some (.Call (.Name nmC p) [a] [] pos)) none pos2) (tRaiseWh C W ta) := ps_raise hc tk (pmk_wh T hr ha hg hdb he hpl)
/-- low.by, low the exception that the suite holds (at a; its class cls, its dict d) -/
def tByWh (C : Addr) (a : Addr) (cls : Value) (d : Option Addr) (te : TE) : TE := fun σ H Q => te σ H fun x H1 => x = .ref a ∧ cls = .ref C ∧ ∃ (dd : Addr) (v : V), d = some dd ∧ H1 dd = some (xw dd v) ∧ Q v H1
theorem pe_byWh {a : Addr} {oe : Obj} {cls : Value} {d : Option Addr} {pn : List (Addr × Obj)} {e : Expr} {te : TE} {pos : Pos} (T : PySem.WhX.WhTxt X.K X.mg nmC C fI) (hz : Zc cls d oe) (hf : ∃ vs, oe.data = .fields vs) (he : PE (X.suite a ((a, oe) :: pn)) e te)
    (hb : attributeBase e "what" X.env (eval e X.env) = eval e X.env := by rfl) :
    PE (X.suite a ((a, oe) :: pn)) (.Attribute e "what" pos) (tByWh C a cls d te) := by
  refine ⟨fun pins s σ H Q I h => ?_⟩
  refine attr_of hb (thn (he.run pins s σ H _ I h) fun u s1 hh => ?_)
  obtain ⟨x, H1, I1, rx, ex, ec, dd, v, ed, ea, q⟩ := hh
  subst ex
  obtain rfl : u = Value.ref a := rx
  subst ec
  subst ed
  obtain ⟨ha, _⟩ := I1.pin (a, oe) (List.mem_append_left _ List.mem_cons_self)
  obtain ⟨vs, hd⟩ := hf
  obtain ⟨mA, hns, hr⟩ := xw_at (I1.hok dd _ ea)
  obtain ⟨od, ho, hl⟩ := lookIn_ns hns
  obtain ⟨u, hu, ru⟩ := RelO.some_of (v := v) (o := mA "what") hr
  have J : PySem.W.InstAt s1.heap a oe C (some od) := ⟨ha, hz.1, by unfold PySem.W.notCls; rw [hd] <;> rfl, by rw [hz.2]; exact ho⟩
  exact HandSPX.exc_get I1.kIn J T.ga T.gg T.exC (PySem.W.findObj_own T.hdC T.noN rfl (by rw [hl, hu])) (handed_of ru) ⟨v, H1, I1.tok _, ru, q⟩
end
end L2
set_option maxHeartbeats 4000000
namespace Dn
open PySem PySem.Spec L2

/-! ## isinstance, all, ranges, slices -/
def tyName : PyData → Option String
  | .none => some "NoneType"
  | .bool _ => some "bool"
  | .int _ => some "int"
  | .str _ => some "str"
  | .list _ => some "list"
  | .tuple _ => some "tuple"
  | .dict _ => none
theorem tyOk {K : PySem.W.Frag} {C H : Hp} {x : V} {d : PyData} {T : String} (sm : Same C H) (h : Dp KD C x d) (e : tyName d = some T) : TyX K H x (.type T) := by
  cases h with
  | non => cases e; exact .base .non
  | bl b => cases e; exact .base (.bl b)
  | int i => cases e; exact .base (.int i)
  | str z => cases e; exact .base (.str z)
  | lst hs hd =>
    cases e
    rcases sm.seq hs with (z | ⟨o, z⟩) | ⟨o, its, n, hk, _⟩
    · exact .base (.lst z)
    · exact .base (.frz z)
    · cases hk
  | tup hs hd =>
    cases e
    rcases sameT sm hs with (z | ⟨o, z⟩) | ⟨o, its, n, hk, _⟩
    · exact .base (.tup z)
    · exact .fTuple z
    · cases hk
def isTy (T : String) (d : PyData) : Option Bool := match tyName d with
  | some U => kitB U T
  | none => none
/-- isinstance(e, T) -/
def mIsi (T : String) (m : Mi PyData) : Mi PyData := m.bind fun d => Mi.opt ((isTy T d).map PyData.bool)
section
variable {X : Cx} {W : WX} {P : Pn} {a b c e : Expr} {es : List Expr} {ma mb mc : Mi PyData} {pos : Pos}
theorem deIsi {x : Str} {Ts : String} {p1 p2 : Pos} (ha : DE X W P ma a) (hg : Gl X "isinstance") (hm : X.mg "isinstance" = none) (hg2 : Gl X x) (hm2 : X.mg x = none) (hv2 : bootBuiltins x = some (.type Ts))
    (hn2 : x ≠ "__name__" := by decide) (hd2 : (x == ("__debug__" : Str)) = false := by decide)
    (hs : starEach [a, .Name x p2] X.env = (false, eval a X.env) :: starEach [.Name x p2] X.env := by rfl) (hs2 : starEach [.Name x p2] X.env = (false, eval (.Name x p2) X.env) :: starEach [] X.env := by rfl)
    (hpl : (backTo pos (starEach [.Name x p2] X.env)).any (·.1) = false := by rfl) : DE X W P (mIsi Ts ma) (.Call (.Name "isinstance" p1) [a, .Name x p2] [] pos) := fun F hF =>
  peImp (pe_callB call_isi hg hm (by decide +kernel) (pa_cons (ha F hF) (pa_cons (pe_bltn (v := .ty Ts) hg2 hm2 hv2 rfl hn2 hd2) pa_nil hs2) hs) (by decide) (by decide) hs hpl) fun σ H Q ⟨C, ρ, R, h⟩ => ⟨C, ρ, R, (poBind h).imp fun x1 H1 ⟨C1, ρ1, d, s1, R1, d1, h1⟩ => by
    cases e1 : tyName d with
    | none =>
      simp only [isTy, e1, Option.map_none, Mi.opt] at h1
      exact h1.elim
    | some U =>
      cases e2 : kitB U Ts with
      | none =>
        simp only [isTy, e1, e2, Option.map_none, Mi.opt] at h1
        exact h1.elim
      | some k =>
        simp only [isTy, e1, e2, Option.map_some, Mi.opt] at h1
        exact ⟨x1, .ty Ts, _, _, k, rfl, .ty Ts, tyOk R1.ch d1 e1, kit_ty e2, poRet h1 R1 (.bl k)⟩⟩
def boolsOf : List PyData → Option (List Bool)
  | [] => some []
  | .bool i :: ds => (boolsOf ds).map (i :: ·)
  | _ :: _ => none
theorem boolsOk {C : Hp} : ∀ {ds : List PyData} {vs : List V} {ns : List Bool}, DpAll KD C vs ds → boolsOf ds = some ns → vs = ns.map V.bl
  | [], _, _, h, e => by
    cases h
    cases e
    rfl
  | d :: ds, _, ns, .cons h hs, e => by
    cases h with
    | bl i =>
      simp only [boolsOf, Option.map_eq_some_iff] at e
      obtain ⟨ms, e1, rfl⟩ := e
      rw [boolsOk hs e1]
      rfl
    | _ => cases e
def bAll : List PyData → Option PyData
  | [.list ds] => (boolsOf ds).map fun bs => .bool (bs.all id)
  | _ => none
theorem kAll (hc : X.calm = true) : CallR X (.builtin "all") (rDs bAll) := by
  intro pins s σ H xs us Q I r h
  obtain ⟨C, ds, d, e, sm, da, q⟩ := h
  cases da with
  | nil => cases e
  | cons d1 d2 =>
    cases d2 with
    | cons _ _ => cases d1 <;> cases e
    | nil =>
      cases d1 with
      | @lst p vs ds hs hd =>
        simp only [bAll, Option.map_eq_some_iff] at e
        obtain ⟨bs, e1, rfl⟩ := e
        have ev := boolsOk hd e1
        subst ev
        exact cr_all hc pins s σ H _ us Q I r ⟨p, bs, rfl, upL (sm.seq hs), q _ C H (Ext.refl sm) (.bl _)⟩
      | _ => cases e
/-- tuple(range(e)), list(range(e)) -/
theorem rgD (n : Int) : ∀ C, DpAll KD C (rgV 0 n) (ranged 0 n.toNat) := fun C => by
  have go : ∀ (l : List Nat), DpAll KD C (l.map fun (i : Nat) => V.int (0 + (i : Int))) (l.map fun (i : Nat) => PyData.int (0 + (i : Int))) := by
    intro l
    induction l with
    | nil => exact .nil
    | cons i l ih => exact .cons (.int _) ih
  have z := go (List.range n.toNat)
  unfold rgV ranged
  have e : (n - 0).toNat = n.toNat := by simp
  rw [e]
  exact z
theorem isMvI : ∀ ns : List Int, isMv (ns.map PyData.int) = false
  | [] => rfl
  | _ :: _ => rfl
theorem rgMv (n : Nat) : isMv (ranged 0 n) = false := by
  unfold ranged
  cases n with
  | zero => rfl
  | succ n =>
    rw [List.range_succ_eq_map]
    rfl
def fRg : PyData → Option (List PyData)
  | .int n => if 0 ≤ n ∧ n ≤ 16777216 then some (ranged 0 n.toNat) else none
  | _ => none
def mTupRg (m : Mi PyData) : Mi PyData := m.bind fun d => Mi.opt ((fRg d).map PyData.tuple)
def mLstRg (m : Mi PyData) : Mi PyData := m.bind fun d => Mi.opt ((fRg d).map PyData.list)
theorem deTupRg {p1 p2 pos2 : Pos} (hc : X.calm = true) (hg : Gl X "tuple") (hm : X.mg "tuple" = none) (hgr : Gl X "range") (hmr : X.mg "range" = none) (ha : DE X W P ma a)
    (na : starEach [a] X.env = (false, eval a X.env) :: starEach [] X.env := by rfl) (nb : starEach [.Call (.Name "range" p2) [a] [] pos2] X.env = (false, eval (.Call (.Name "range" p2) [a] [] pos2) X.env) :: starEach [] X.env := by rfl) :
    DE X W P (mTupRg ma) (.Call (.Name "tuple" p1) [.Call (.Name "range" p2) [a] [] pos2] [] pos) := fun F hF =>
  peImp (pe_tupRg hc hg hm (prg_1 hgr hmr (ha F hF) na) nb) fun σ H Q ⟨C, ρ, R, h⟩ => ⟨C, ρ, R, (poBind h).imp fun x1 H1 ⟨C1, ρ1, d, s1, R1, d1, h1⟩ => by
    cases d1 with
    | int n =>
      simp only [fRg] at h1
      by_cases hn : 0 ≤ n ∧ n ≤ 16777216
      · simp only [if_pos hn, Option.map_some, Mi.opt] at h1
        refine ⟨n, rfl, ⟨by omega, by omega, by omega, by omega, by omega⟩, fun q hq => ?_⟩
        obtain ⟨y1, y2⟩ := coldT R1.ch hq (rgD n C1) (rgMv _)
        exact h1 _ _ _ y1.cc (R1.grow y1) y2
      · simp only [if_neg hn, Option.map_none, Mi.opt] at h1
        exact h1.elim
    | _ => exact h1.elim⟩
theorem deLstRg {p1 p2 pos2 : Pos} (hc : X.calm = true) (hg : Gl X "list") (hm : X.mg "list" = none) (hgr : Gl X "range") (hmr : X.mg "range" = none) (ha : DE X W P ma a)
    (na : starEach [a] X.env = (false, eval a X.env) :: starEach [] X.env := by rfl) (nb : starEach [.Call (.Name "range" p2) [a] [] pos2] X.env = (false, eval (.Call (.Name "range" p2) [a] [] pos2) X.env) :: starEach [] X.env := by rfl) :
    DE X W P (mLstRg ma) (.Call (.Name "list" p1) [.Call (.Name "range" p2) [a] [] pos2] [] pos) := fun F hF =>
  peImp (pe_listRg hc hg hm (prg_1 hgr hmr (ha F hF) na) nb) fun σ H Q ⟨C, ρ, R, h⟩ => ⟨C, ρ, R, (poBind h).imp fun x1 H1 ⟨C1, ρ1, d, s1, R1, d1, h1⟩ => by
    cases d1 with
    | int n =>
      simp only [fRg] at h1
      by_cases hn : 0 ≤ n ∧ n ≤ 16777216
      · simp only [if_pos hn, Option.map_some, Mi.opt] at h1
        refine ⟨n, rfl, ⟨by omega, by omega, by omega, by omega, by omega⟩, fun q hq => ?_⟩
        obtain ⟨y1, y2⟩ := coldL R1.ch hq (rgD n C1)
        exact h1 _ _ _ y1.cc (R1.grow y1) y2
      · simp only [if_neg hn, Option.map_none, Mi.opt] at h1
        exact h1.elim
    | _ => exact h1.elim⟩
/-! ### slices -/
def cutD (xs : List PyData) (lo hi : Option Int) : List PyData := (xs.drop (HT.sIx xs.length 0 lo)).take (HT.sIx xs.length xs.length hi - HT.sIx xs.length 0 lo)
def fCut (lo hi : Option Int) : PyData → Option PyData
  | .list ds => some (.list (cutD ds lo hi))
  | .tuple ds => if isMv (cutD ds lo hi) = false then some (.tuple (cutD ds lo hi)) else none
  | _ => none
def rCut (lo' hi' : Option Int) : V → Option Int → Option Int → Hp → VK → Prop := fun x lo hi H Q => ∃ C a d, lo = lo' ∧ hi = hi' ∧ fCut lo hi a = some d ∧ Same C H ∧ Dp KD C x a ∧ ∀ v C' H', Ext C H C' H' → Dp KD C' v d → Q v H'
theorem cutOk {C : Hp} {vs : List V} {ds : List PyData} (h : DpAll KD C vs ds) (lo hi : Option Int) : DpAll KD C (cutV vs lo hi) (cutD ds lo hi) := by
  unfold cutV cutD
  rw [dpaLen h]
  exact dpaTake _ (dpaDrop _ h)
def rCutA : V → Option Int → Option Int → Hp → VK → Prop := fun x lo hi H Q => ∃ C a d, fCut lo hi a = some d ∧ Same C H ∧ Dp KD C x a ∧ ∀ v C' H', Ext C H C' H' → Dp KD C' v d → Q v H'
theorem slCut : SlR X rCutA := by
  intro pins s σ H x v vl vu lo hi sl Q I rx hs pl pu h
  obtain ⟨C, a, d, e, sm, da, q⟩ := h
  cases da with
  | @lst p vs ds hq hd =>
    cases e
    refine sl_list pins s σ H _ v vl vu lo hi sl Q I rx hs pl pu ⟨p, vs, rfl, upL (sm.seq hq), fun r hr => ?_⟩
    obtain ⟨y1, y2⟩ := coldL sm hr (cutOk hd lo hi)
    exact q _ _ _ y1 y2
  | @tup p vs ds hq hd =>
    simp only [fCut] at e
    split at e
    case isFalse => cases e
    rename_i hmv
    cases e
    refine sl_tupA pins s σ H _ v vl vu lo hi sl Q I rx hs pl pu ⟨p, vs, rfl, upT (sameT sm hq), fun hw => ?_, fun _ r hr => ?_⟩
    · have ew : cutD ds lo hi = ds := by
        unfold cutD
        rw [← dpaLen hd, hw.1, hw.2, dpaLen hd]
        simp
      rw [ew] at q
      exact q _ C H (Ext.refl sm) (.tup hq hd)
    · obtain ⟨y1, y2⟩ := coldT sm hr (cutOk hd lo hi) hmv
      exact q _ _ _ y1 y2
  | _ => cases e
/-- a part of a slice -/
def RelO' : L2.St → Hp → Option Int → Option Int → Prop := fun _ _ b a => b = a
def DO (X : Cx) (W : WX) (P : Pn) (m : Mi (Option Int)) (o : Option Expr) : Prop := ∀ F : Fr0, FOk F P → PO X o (tM X F W RelO' m)
theorem doNone : DO X W P (Mi.ret none) none := fun F _ => ⟨fun pins s σ H Q I ⟨C, ρ, R, p⟩ => po_none.run pins s σ H Q I (poRet (Rel := RelO') p R rfl)⟩
def mPart (m : Mi PyData) : Mi (Option Int) := m.bind fun d => match d with
  | .int i => Mi.ret (some i)
  | _ => fun _ => .bad
theorem doSome (h : DE X W P ma a) : DO X W P (mPart ma) (some a) := fun F hF => ⟨fun pins s σ H Q I ⟨C, ρ, R, p⟩ => (po_some (h F hF)).run pins s σ H Q I ⟨C, ρ, R, (poBind p).imp fun x1 H1 ⟨C1, ρ1, d, s1, R1, d1, h1⟩ => by
    cases d1 with
    | int i => exact ⟨i, rfl, poRet h1 R1 rfl⟩
    | _ => exact h1.elim⟩⟩
def mCut (ma : Mi PyData) (ml mh : Mi (Option Int)) : Mi PyData := ma.bind fun d => ml.bind fun lo => mh.bind fun hi => Mi.opt (fCut lo hi d)
theorem deCut {lo hi : Option Expr} {ml mh : Mi (Option Int)} {p2 : Pos} (ha : DE X W P ma a) (hl : DO X W P ml lo) (hh : DO X W P mh hi) : DE X W P (mCut ma ml mh) (.Subscript a (.Slice lo hi none p2) pos) := fun F hF =>
  peImp (pe_slice slCut (ha F hF) (hl F hF) (hh F hF)) fun σ H Q ⟨C, ρ, R, p⟩ => ⟨C, ρ, R, (poBind p).imp fun x1 H1 ⟨C1, ρ1, d, s1, R1, d1, h1⟩ => ⟨C1, ρ1, R1, (poBind h1).imp fun l H2 ⟨C2, ρ2, l', s2, R2, d2, h2⟩ => ⟨C2, ρ2, R2, (poBind h2).imp fun u H3 ⟨C3, ρ3, u', s3, R3, d3, h3⟩ => by
    have d2' : l = l' := d2
    have d3' : u = u' := d3
    subst d2' d3'
    cases e : fCut l u d with
    | none =>
      simp only [e, Mi.opt] at h3
      exact h3.elim
    | some z =>
      simp only [e, Mi.opt] at h3
      exact ⟨C3, d, z, e, R3.ch, dpMono (s2.trans s3) d1, fun v C' H' ex dv => h3 v C' H' ex.cc (R3.grow ex) dv⟩⟩⟩⟩
/-! ### a slot's list read where it stands -/
/-- xs[e], xs a name -/
def mIxV (i : Nat) (mi : Mi PyData) : Mi PyData := fun r => match hotOf r i with
  | some _ => (mi.bind fun k r' => match hotOf r' i with
    | some xs => match fIx (.list xs) k with
      | some d => .ok d r'
      | none => .bad
    | none => .bad) r
  | none => match r[i]? with
    | some (some (.val d)) => (mi.bind fun k => Mi.opt (fIx d k)) r
    | _ => .bad
theorem deIxV {i : Nat} {x : Str} {p : Pos} {mi : Mi PyData} (hv : PE X (.Name x p) (tVar i)) (hb : DE X W P mi b) (hs : PlainIx b) : DE X W P (mIxV i mi) (.Subscript (.Name x p) b pos) := fun F hF =>
  peImp (pe_ix ix_seq hv (hb F hF) hs) fun σ H Q ⟨C, ρ, R, h⟩ => by
    unfold mIxV at h
    cases e1 : hotOf ρ i with
    | some xs =>
      rw [e1] at h
      obtain ⟨a, vs, ea, _⟩ := R.hotAt (hotOf_eq e1)
      refine ⟨.ref a, ea, C, ρ, R, (poBind (Rel1 := RelD X) h).imp fun y H2 ⟨C2, ρ2, k, s2, R2, d2, h2⟩ => ?_⟩
      cases e2 : hotOf ρ2 i with
      | none =>
        simp only [e2] at h2
        exact h2.elim
      | some ys =>
        simp only [e2] at h2
        cases e3 : fIx (.list ys) k with
        | none =>
          simp only [e3] at h2
          exact h2.elim
        | some d =>
          simp only [e3] at h2
          obtain ⟨a', ws, ea', g1, g2, g3⟩ := R2.hotAt (hotOf_eq e2)
          rw [ea] at ea'
          cases ea'
          cases d2 with
          | int n =>
            obtain ⟨w, f1, f2⟩ := atOk g3 e3
            exact .inl ⟨a, ws, n, w, rfl, rfl, SqL.of g2, f1, poRet h2 R2 f2⟩
          | _ => cases e3
    | none =>
      rw [e1] at h
      cases e2 : ρ[i]? with
      | none =>
        rw [e2] at h
        exact h.elim
      | some o =>
        cases o with
        | none =>
          rw [e2] at h
          exact h.elim
        | some en =>
          cases en with
          | val d =>
            rw [e2] at h
            obtain ⟨v, A, e3, _, dv⟩ := R.sl i _ e2
            refine ⟨v, e3, C, ρ, R, (poBind (Rel1 := RelD X) h).imp fun y H2 ⟨C2, ρ2, k, s2, R2, d2, h2⟩ => ?_⟩
            cases e4 : fIx d k with
            | none =>
              simp only [e4, Mi.opt] at h2
              exact h2.elim
            | some d' =>
              simp only [e4, Mi.opt] at h2
              have dv2 := dpMono (s2.trans R2.ch) (show Dp KD C v d from dv)
              have dv1 := dpMono s2 (show Dp KD C v d from dv)
              cases dv with
              | @lst p vs ds hs hd =>
                cases d2 with
                | int n =>
                  obtain ⟨w, f1, f2⟩ := atOk (dpaMono s2 hd) e4
                  exact .inl ⟨p, vs, n, w, rfl, rfl, upL ((s2.trans R2.ch).seq hs), f1, poRet h2 R2 f2⟩
                | _ => cases e4
              | @tup p vs ds hs hd =>
                cases d2 with
                | int n =>
                  obtain ⟨w, f1, f2⟩ := atOk (dpaMono s2 hd) e4
                  exact .inr (.inl ⟨p, vs, n, w, rfl, rfl, upT (sameT (s2.trans R2.ch) hs), f1, poRet h2 R2 f2⟩)
                | _ => cases e4
              | str z =>
                cases d2 with
                | int n =>
                  simp only [fIx] at e4
                  split at e4
                  · rename_i hl
                    obtain ⟨c, f1, rfl⟩ := Option.map_eq_some_iff.mp e4
                    exact .inr (.inr ⟨z, n, c, rfl, rfl, lineLe hl, f1, poRet h2 R2 (.str _)⟩)
                  · cases e4
                | _ => cases e4
              | _ => cases d2 <;> cases e4
          | _ =>
            rw [e2] at h
            exact h.elim
/-- len(xs), xs a name -/
def mLenV (i : Nat) : Mi PyData := fun r => match hotOf r i with
  | some xs => .ok (.int (xs.length : Nat)) r
  | none => match r[i]? with
    | some (some (.val d)) => Mi.opt (bLen [d]) r
    | _ => .bad
theorem deLenV {i : Nat} {x : Str} {p p2 : Pos} (hv : PE X (.Name x p) (tVar i)) (hg : Gl X "len") (hm : X.mg "len" = none) (hs : starEach [.Name x p] X.env = (false, eval (.Name x p) X.env) :: starEach [] X.env := by rfl)
    (hpl : (backTo pos (starEach [] X.env)).any (·.1) = false := by rfl) : DE X W P (mLenV i) (.Call (.Name "len" p2) [.Name x p] [] pos) := fun F hF =>
  peImp (pe_callB call_len_seq hg hm PySem.boot_len (pa_cons hv pa_nil hs) (by decide) (by decide) hs hpl) fun σ H Q ⟨C, ρ, R, h⟩ => by
    unfold mLenV at h
    cases e1 : hotOf ρ i with
    | some xs =>
      rw [e1] at h
      obtain ⟨a, vs, ea, g1, g2, g3⟩ := R.hotAt (hotOf_eq e1)
      refine ⟨.ref a, ea, a, vs, rfl, .inl (SqL.of g2), ?_⟩
      rw [dpaLen g3]
      exact poRet h R (.int _)
    | none =>
      rw [e1] at h
      cases e2 : ρ[i]? with
      | none =>
        rw [e2] at h
        exact h.elim
      | some o =>
        cases o with
        | none =>
          rw [e2] at h
          exact h.elim
        | some en =>
          cases en with
          | val d =>
            rw [e2] at h
            obtain ⟨v, A, e3, _, dv⟩ := R.sl i _ e2
            cases e4 : bLen [d] with
            | none =>
              simp only [e4, Mi.opt] at h
              exact h.elim
            | some d' =>
              simp only [e4, Mi.opt] at h
              cases dv with
              | @lst q vs ds hs hd =>
                cases e4
                refine ⟨_, e3, q, vs, rfl, .inl (upL (R.ch.seq hs)), ?_⟩
                rw [dpaLen hd]
                exact poRet h R (.int _)
              | @tup q vs ds hs hd =>
                cases e4
                refine ⟨_, e3, q, vs, rfl, .inr (upT (sameT R.ch hs)), ?_⟩
                rw [dpaLen hd]
                exact poRet h R (.int _)
              | _ => cases e4
          | _ =>
            rw [e2] at h
            exact h.elim
/-! ### raise -/
def sRaise (c : Str) (m : Mi PyData) : Rho → Fl := sBind m fun d r => .ex c d r
theorem dsRaise {nm : Str} {Cl fI : Addr} {k : Nat} {p pos2 : Pos} (hc : X.calm = true) (T : PySem.WhX.WhTxt X.K X.mg nm Cl fI) (hr : Room k X.A) (tk : Takes X W) (ha : DE X W P ma a) (hg : Gl X nm) (hdb : (nm == ("__debug__" : Str)) = false)
    (he : starEach (a :: []) X.env = (false, eval a X.env) :: starEach [] X.env := by rfl) (hpl : (backTo pos (starEach [] X.env)).any (·.1) = false := by rfl) :
    DS X W P (sRaise nm ma) (.Raise (some (.Call (.Name nm p) [a] [] pos)) none pos2) := fun F hF =>
  psImp (ps_raiseWh hc T hr tk (daCons ha daNil he F hF) hg hdb he hpl) fun D σ H ⟨C, ρ, R, h⟩ => by
    refine ⟨C, ρ, R, ?_⟩
    have h' := posBind (Rel1 := RelD X) (σ := σ) h
    unfold mCons Mi.bind
    cases e : ma ρ with
    | bad =>
      rw [e] at h'
      exact h'
    | ex c w r =>
      rw [e] at h'
      exact h'
    | ok d r =>
      rw [e] at h'
      intro vs C1 H1 s1 R1 dv
      have dw := dv.1
      cases dw with
      | @cons v vs d ds dv1 dn =>
        cases dn
        refine ⟨v, rfl, fun q hq => ?_⟩
        obtain ⟨C2, r2, d2, s2, R2, dd2, q2⟩ := h' v C1 H1 s1 R1 dv1
        have ex : Ext C2 H1 (upd C2 q (xw q v)) (upd H1 q (xw q v)) := Ext.new R2.ch hq
        exact q2 σ Cl q v _ _ T.gC ex.cc (R2.grow ex) upd_same (dpMono ex.cc dd2)
end
end Dn
set_option maxHeartbeats 4000000
namespace Dn
open PySem PySem.Spec PyProof.Rows L2

/-! ## enumerate over a tuple -/
set_option maxHeartbeats 8000000 in
theorem newEnumT (l : Addr) (vals : Array Value) (n : Nat) (dd : Option Addr) (sl : Array (Option Value)) :
    Meets (Builtin.«enumerate.__new__» ⟨[.type "enumerate", .ref l], []⟩) (fun _ R s => s.heap.get? l = some { cls := .type "tuple", dict := dd, data := .seq vals n, slots := sl } ∧
      R (.ok (.ret (.ref (s.heap.push { cls := .type "tuple_iterator", data := .fields #[.ref l, .int 0 0] }).objs.size)))
        { s with heap := (s.heap.push { cls := .type "tuple_iterator", data := .fields #[.ref l, .int 0 0] }).push { cls := .type "enumerate", data := .fields #[.none, .bool false, .ref s.heap.objs.size, rawInt 0, .none, .none] } }) :=
  .of_wp fun prog w A R s hh => by
    obtain ⟨hp, g, dr, tk, os⟩ := s
    obtain ⟨hl, hr⟩ := hh
    have subE := sub_enumerate
    have isT : Heap.IsTuple (Shared.heap ⟨hp, g, dr, tk, os⟩) l vals := ⟨_, hl, rfl, n, rfl⟩
    wp_walk using wpAny_loadPart' hl
    refine wpAny_stack_any fun st => wpAny_pure ?_
    split
    · rename_i c _ _ _ _ _
      cases (c == Value.type "enumerate") with
      | true =>
        wp_walk using wpAny_loadPart' hl, wpAny_pyIter_tuple isT
        exact ⟨_, rfl, hr⟩
      | false =>
        wp_walk using wpAny_loadPart' hl, wpAny_pyIter_tuple isT
        exact ⟨_, rfl, hr⟩
    · wp_walk using wpAny_loadPart' hl, wpAny_pyIter_tuple isT
      exact ⟨_, rfl, hr⟩
theorem callEnumT {prog : Program} {w : World} {A : Around} {E : Value → Shared → Prop} {s : Shared} {l : Addr} {vals : Array Value} {Q : Value → Shared → Prop} (hT : s.heap.IsTuple l vals)
    (h : ∀ h', IsEnum h' (s.heap.objs.size + 1) s.heap.objs.size 0 .none → h'.IsTupleIter s.heap.objs.size l 0 → (∀ b o, s.heap.get? b = some o → h'.get? b = some o) → Q (.ref (s.heap.objs.size + 1)) { s with heap := h' }) :
    wpAny (model prog w) A (call (.type "enumerate") [.ref l]) Q E s := by
  obtain ⟨⟨c, dd, dt, sl⟩, hl, hc, n, hd⟩ := hT
  simp only at hc hd
  subst hc hd
  refine callType_new F.called_enumerate (by decide) (F.typeCall_enumerate_1 _) (F.newCall_enumerate_1 _) (fun obj => F.args_object_init_2 obj _) F.entry_enumerate_new (newEnumT l vals n dd sl) ⟨hl, ?_⟩
  have sz : (s.heap.push { cls := .type "tuple_iterator", data := .fields #[.ref l, .int 0 0] }).objs.size = s.heap.objs.size + 1 := Heap.size_push ..
  show _ ∧ _
  rw [sz]
  have isE : IsEnum ((s.heap.push { cls := .type "tuple_iterator", data := .fields #[.ref l, .int 0 0] }).push { cls := .type "enumerate", data := .fields #[.none, .bool false, .ref s.heap.objs.size, rawInt 0, .none, .none] })
      (s.heap.objs.size + 1) s.heap.objs.size 0 .none := by
    have q := Heap.get?_push_size (s.heap.push { cls := .type "tuple_iterator", data := .fields #[.ref l, .int 0 0] }) (o := { cls := .type "enumerate", data := .fields #[.none, .bool false, .ref s.heap.objs.size, rawInt 0, .none, .none] }) rfl
    rw [sz] at q
    exact q
  exact ⟨⟨_, isE, rfl⟩, h _ isE ⟨_, Heap.get?_push_of_some _ (Heap.get?_push_size _ rfl), rfl, rfl⟩ fun b o q => Heap.get?_push_of_some _ (Heap.get?_push_of_some _ q)⟩
def ItET (K : PySem.W.Frag) (a : Addr) : It where
  go := fun i H => ∃ (xs : List V) (x : V), SqT K H a xs ∧ xs[i]? = some x
  yld := fun i H v H' => ∃ T x, v = .ref T ∧ H T = none ∧ H' = upd H T (.tup [.int (i : Nat), x]) ∧ ∀ xs, SqT K H a xs → xs[i]? = some x
  stop := fun i H => ∃ xs : List V, SqT K H a xs ∧ xs.length ≤ i
theorem turnET {P : Program} {w : World} {K : PySem.W.Frag} {elts : List Expr} {kk : Nat} {tpos : Pos} (a e it : Addr) :
    Turn P w K (.Tuple elts kk tpos) (ItET K a) [e, it] e (fun i h => (∃ old, IsEnum h e it ((i : Nat) : Int) old) ∧ h.IsTupleIter it a i ∧ e ≠ it) where
  mem := List.mem_cons_self
  obj := by
    intro i h st b hb
    obtain ⟨⟨old, he⟩, ⟨o, ho, hc, hd⟩, _⟩ := st
    simp only [List.mem_cons, List.not_mem_nil, or_false] at hb
    rcases hb with rfl | rfl
    · exact ⟨_, he, fun v q => nomatch q⟩
    · exact ⟨o, ho, fun v q => by rw [hd] at q; cases q⟩
  keep := by
    intro i h h' st k
    obtain ⟨⟨old, he⟩, hi, hne⟩ := st
    exact ⟨⟨old, k e (by simp) _ he⟩, hi.at fun o q => k it (by simp) o q, hne⟩
  item := by
    intro X hP hw hK hc i pins s σ H E I hf st hg
    subst hP hw hK
    obtain ⟨⟨old, he⟩, hit, hne⟩ := st
    obtain ⟨xs, x, hq, hx⟩ := hg
    obtain ⟨its, rv, isT, hz⟩ := I.tuple hq
    obtain ⟨u, hu, ru⟩ := rv.get hx
    have nea : a ≠ it := fun z => by
      obtain ⟨o1, e1, c1, _⟩ := id isT
      obtain ⟨o2, e2, c2, _⟩ := id hit
      rw [z, e2] at e1
      cases e1
      have c3 := c1.symm.trans c2
      injection c3 with c4
      exact absurd c4 (by decide)
    have nee : e ≠ a := fun z => by
      obtain ⟨o1, e1, c1, _⟩ := id isT
      have e2 : s.heap.get? e = some _ := he
      rw [z, e1] at e2
      have e3 := Option.some.inj e2
      rw [e3] at c1
      injection c1 with c4
      exact absurd c4 (by decide)
    have lte : e < s.heap.objs.size := Heap.lt_size he
    have ltit : it < s.heap.objs.size := by
      obtain ⟨_, q, _⟩ := hit
      exact Heap.lt_size q
    have hlt : i < its.toArray.size := by
      have l1 := rv.length
      have l2 := (List.getElem?_eq_some_iff.mp hx).1
      simp only [List.size_toArray]
      omega
    have DD : Draws X.prog X.w X.A.in1 it [it, a] its.toArray.size (fun i v => its.toArray[i]? = some v) (fun i h => h.IsTupleIter it a i ∧ h.IsTuple a its.toArray) :=
      Draws.tuple (A := X.A.in1) (I.ok.hd hc) it a nea its.toArray
    refine wpAny_pyNext_enum_itemD DD he ⟨hit, isT⟩ hlt hne (by simp [hne, nee]) fun x' h' tk hx' ho hst hT hsz hk => ?_
    have ex : x' = u := by
      have q : its.toArray[i]? = some u := by simpa using hu
      rw [q] at hx'
      exact (Option.some.inj hx').symm
    subst ex
    refine ⟨_, rfl, wpAny_letOwnedTupleGo_enum (s := { s with heap := h', toks := tk + 1 }) ho fun h2 he2 sb => ?_⟩
    have hT2 : h2.get? s.heap.objs.size = some { cls := .type "tuple", data := .seq #[.int i tk, x'] } := (sb.2 _ (Nat.ne_of_gt lte)).trans hT
    have new : ObjOk X.prog X.w (upd H s.heap.objs.size (.tup [.int (i : Nat), x])) h2 s.heap.objs.size (.tup [.int (i : Nat), x]) :=
      ⟨lineLe (show 2 ≤ 16777216 by decide), [.int i tk, x'], .cons ⟨_, rfl⟩ (.cons ru .nil), ⟨_, hT2, rfl, _, rfl⟩⟩
    have kk2 : ∀ b ob, b ∉ [e, it] → s.heap.get? b = some ob → h2.get? b = some ob := fun b ob hb q => by
      have n1 : b ≠ e := fun z => hb (by rw [z]; exact List.mem_cons_self)
      have n2 : b ≠ it := fun z => hb (by rw [z]; exact List.mem_cons_of_mem _ List.mem_cons_self)
      exact (sb.2 b n1).trans (hk b ob n1 n2 q)
    have I1 : Inv X pins σ (upd H s.heap.objs.size (.tup [.int (i : Nat), x])) { s with heap := h2, toks := tk + 1 } := I.turnedNew (ch := [e, it]) kk2 hf (Nat.le_refl _) new
    refine ⟨.ref s.heap.objs.size, _, I1, rfl, ⟨_, x, rfl, I.hok.fresh (Nat.le_refl _), rfl, fun ys hy => by rw [I.tuple_inj hy hq]; exact hx⟩, ⟨⟨x', ?_⟩, hst.1.at fun o q => (sb.2 it (Ne.symm hne)).trans q, hne⟩, fun b hb => ?_⟩
    · have e1 : ((i + 1 : Nat) : Int) = (i : Int) + 1 := by omega
      rw [e1]
      exact he2
    · have hb2 : b < s.heap.objs.size := by
        simp only [List.mem_cons, List.not_mem_nil, or_false] at hb
        rcases hb with rfl | rfl
        · exact lte
        · exact ltit
      rw [upd_ne (Nat.ne_of_lt hb2)]
      exact (hf b hb).1
  done := by
    intro X hP hw hK hc i pins s σ H E I hf st hg
    subst hP hw hK
    obtain ⟨⟨old, he⟩, hit, hne⟩ := st
    obtain ⟨xs, hq, hx⟩ := hg
    obtain ⟨its, rv, isT, hz⟩ := I.tuple hq
    have l1 := rv.length
    obtain ⟨f0, f1, f2, f3, f4, f5⟩ := hf it (by simp)
    have hT : s.TypeIs (.ref e) "enumerate" := ⟨_, he, rfl⟩
    unfold pyNext
    refine wpAny_bind (wpAny_attempt (wpAny_callSpecial?_slot (name := Str.ofString "__next__") hT F.slot_enumerate_next (wpAny_call_entry F.slot_enumerate_next hT F.entry_enumerate_next ?_ (F.args_enumerate_next_1 _))))
    show wpAny _ _ (field (.ref e) 2 >>= _) _ _ _
    refine wpAny_bind (wpAny_field he rfl (x := .ref it) rfl ?_)
    refine wpAny_bind (PySem.wpAny_nextOf_tuple_end (I.ok.hd hc) hit isT (by simp; omega) fun h' x eb hx' => ?_)
    obtain ⟨o, ho, hco⟩ := hx'
    refine wpAny_bind (wpAny_isInstance (T := "StopIteration") (b := true) ⟨o, ho, hco⟩ isSubtype_stop ?_)
    exact wpAny_pure ⟨rfl, I.turned (t' := s.toks) (fun b o hb q => eb b o hb q) f0 f1 f3 f4 f5⟩
  self := by
    intro A i s Q E st h
    obtain ⟨⟨_, he⟩, _⟩ := st
    exact wpAny_pyIter_enum he h
def iEnumT (K : PySem.W.Frag) (ta : TA) : TI := fun σ H R => ta σ H fun vs H1 => ∃ a xs, vs = [.ref a] ∧ SqT K H1 a xs ∧ R (ItET K a) H1
theorem piEnumT {X : Cx} {e : Expr} {ta : TA} {p pos tpos : Pos} {elts : List Expr} {kk : Nat} (hg : Gl X "enumerate") (hm : X.mg "enumerate" = none) (ha : PA X [e] ta) (hs : starEach [e] X.env = [(false, eval e X.env)] := by rfl) :
    PI X (.Tuple elts kk tpos) (.Call (.Name "enumerate" p) [e] [] pos) (iEnumT X.K ta) := by
  constructor
  intro pins s σ H R I h
  refine Call_ (ld_blt I hg hm boot_enumerate (callWith_type1 (thn (ha.run pos pins s σ H _ I h) ?_) hs rfl))
  intro us s1 hh
  obtain ⟨vs, H1, I1, r1, a, xs, ex, hq, q⟩ := hh
  subst ex
  have eu := Vals.ref1 r1
  subst eu
  obtain ⟨its, rv, isT, hz⟩ := I1.tuple hq
  refine callEnumT isT fun h' he hit hk => wpAny_pyIter_enum he ?_
  have I2 : Inv X pins σ H1 { s1 with heap := h' } := I1.kept (t' := s1.toks) hk
  refine ⟨s1.heap.objs.size + 1, [s1.heap.objs.size + 1, s1.heap.objs.size], _, _, H1, rfl, I2, turnET a (s1.heap.objs.size + 1) s1.heap.objs.size, ⟨⟨.none, he⟩, hit, Nat.succ_ne_self _⟩, fun b hb => ?_, q⟩
  have hle : s1.heap.objs.size ≤ b := by
    simp only [List.mem_cons, List.not_mem_nil, or_false] at hb
    rcases hb with rfl | rfl
    · exact Nat.le_succ _
    · exact Nat.le_refl _
  exact I1.fpOk hle (I1.hok.fresh hle)
def enumD : Nat → List PyData → List PyData
  | _, [] => []
  | k, d :: ds => .tuple [.int (k : Nat), d] :: enumD (k + 1) ds
theorem enumD_len : ∀ (ds : List PyData) (k : Nat), (enumD k ds).length = ds.length
  | [], _ => rfl
  | _ :: ds, k => congrArg (· + 1) (enumD_len ds (k + 1))
theorem enumD_get : ∀ (ds : List PyData) (k i : Nat) (d : PyData), (enumD k ds)[i]? = some d → ∃ z, ds[i]? = some z ∧ d = .tuple [.int ((k + i : Nat) : Int), z]
  | [], _, _, _, h => by simp [enumD] at h
  | z :: ds, k, 0, d, h => by
    simp only [enumD, List.getElem?_cons_zero, Option.some.injEq] at h
    exact ⟨z, rfl, h.symm⟩
  | z :: ds, k, i + 1, d, h => by
    simp only [enumD, List.getElem?_cons_succ] at h
    obtain ⟨y, h1, h2⟩ := enumD_get ds (k + 1) i d h
    refine ⟨y, by simpa using h1, ?_⟩
    rw [h2]
    have e : k + 1 + i = k + (i + 1) := by omega
    rw [e]
def mEnum (m : Mi PyData) : Mi (List PyData) := m.bind fun d => Mi.opt ((items d).map (enumD 0))
theorem pairDp {C H : Hp} {T : Addr} {i : Nat} {x : V} {z : PyData} (sm : Same C H) (hn : H T = none) (hd : Dp KD C x z) :
    Ext C H (upd C T (.tup [.int (i : Nat), x])) (upd H T (.tup [.int (i : Nat), x])) ∧ Dp KD (upd C T (.tup [.int (i : Nat), x])) (.ref T) (.tuple [.int ((0 + i : Nat) : Int), z]) := by
  have e : 0 + i = i := by omega
  rw [e]
  exact coldT sm hn (.cons (.int _) (.cons hd .nil)) rfl
theorem itersET {K : PySem.W.Frag} {C : Hp} {a : Addr} {vs : List V} {ds : List PyData} (h : SqT K C a vs) (hd : DpAll KD C vs ds) : Iters KD C (ItET K a) (enumD 0 ds) where
  go := fun i d C2 H2 e s1 s2 => by
    obtain ⟨z, e1, _⟩ := enumD_get ds 0 i d e
    obtain ⟨v, ev, _⟩ := dpaGet hd e1
    exact ⟨vs, v, sameT (s1.trans s2) h, ev⟩
  yld := fun i d C2 H2 x H3 e s1 s2 y => by
    obtain ⟨z, e1, rfl⟩ := enumD_get ds 0 i d e
    obtain ⟨v, ev, dv⟩ := dpaGet hd e1
    obtain ⟨T, x', rfl, hn, rfl, y⟩ := y
    have q := y vs (sameT (s1.trans s2) h)
    rw [ev] at q
    cases q
    obtain ⟨g1, g2⟩ := pairDp (i := i) s2 hn (dpMono s1 dv)
    exact ⟨_, g1, g2⟩
  stop := fun C2 H2 s1 s2 => ⟨vs, sameT (s1.trans s2) h, by rw [enumD_len]; exact Nat.le_of_eq (dpaLen hd)⟩
theorem itersEL {K : PySem.W.Frag} {C : Hp} {a : Addr} {vs : List V} {ds : List PyData} (h : SqL K C a vs) (hd : DpAll KD C vs ds) : Iters KD C (Ite K a) (enumD 0 ds) where
  go := fun i d C2 H2 e s1 s2 => by
    obtain ⟨z, e1, _⟩ := enumD_get ds 0 i d e
    obtain ⟨v, ev, _⟩ := dpaGet hd e1
    exact ⟨vs, v, (s1.trans s2).seq h, ev⟩
  yld := fun i d C2 H2 x H3 e s1 s2 y => by
    obtain ⟨z, e1, rfl⟩ := enumD_get ds 0 i d e
    obtain ⟨v, ev, dv⟩ := dpaGet hd e1
    obtain ⟨T, x', rfl, hn, rfl, y⟩ := y
    have q := y vs ((s1.trans s2).seq h)
    rw [ev] at q
    cases q
    obtain ⟨g1, g2⟩ := pairDp (i := i) s2 hn (dpMono s1 dv)
    exact ⟨_, g1, g2⟩
  stop := fun C2 H2 s1 s2 => ⟨vs, (s1.trans s2).seq h, by rw [enumD_len]; exact Nat.le_of_eq (dpaLen hd)⟩
theorem diEnum {X : Cx} {W : WX} {P : Pn} {a : Expr} {ma : Mi PyData} {pos p tpos : Pos} {elts : List Expr} {kk : Nat} (hg : Gl X "enumerate") (hm : X.mg "enumerate" = none) (ha : DE X W P ma a)
    (hs : starEach [a] X.env = [(false, eval a X.env)] := by rfl) : DI X W P (mEnum ma) (.Tuple elts kk tpos) (.Call (.Name "enumerate" p) [a] [] pos) := fun F hF => by
  have hl := pi_enum (tpos := tpos) (elts := elts) (kk := kk) (p := p) (pos := pos) hg hm (daCons ha daNil hs F hF) hs
  have ht := piEnumT (tpos := tpos) (elts := elts) (kk := kk) (p := p) (pos := pos) hg hm (daCons ha daNil hs F hF) hs
  constructor
  intro pins s σ H R I hw
  obtain ⟨C, ρ, RR, p⟩ := hw
  unfold mEnum Mi.bind at p
  cases em : ma ρ with
  | bad =>
    rw [em] at p
    exact p.elim
  | ex c w r =>
    rw [em] at p
    refine hl.run pins s σ H R I ⟨C, ρ, RR, ?_⟩
    unfold mCons Mi.bind
    rw [em]
    exact p
  | ok d r =>
    rw [em] at p
    cases d with
    | list ds =>
      refine hl.run pins s σ H R I ⟨C, ρ, RR, ?_⟩
      unfold mCons Mi.bind
      rw [em]
      intro vs C1 H1 s1 R1 dv
      have dw := dv.1
      cases dw with
      | cons d1 d2 =>
        cases d2
        cases d1 with
        | lst hs hd =>
          obtain ⟨_, _, p⟩ := p
          exact ⟨_, _, rfl, R1.ch.seq (upL hs), p _ C1 H1 s1 R1 (itersEL (upL hs) hd)⟩
    | tuple ds =>
      refine ht.run pins s σ H R I ⟨C, ρ, RR, ?_⟩
      unfold mCons Mi.bind
      rw [em]
      intro vs C1 H1 s1 R1 dv
      have dw := dv.1
      cases dw with
      | cons d1 d2 =>
        cases d2
        cases d1 with
        | tup hs hd =>
          obtain ⟨_, _, p⟩ := p
          exact ⟨_, _, rfl, sameT R1.ch (upT hs), p _ C1 H1 s1 R1 (itersET (upT hs) hd)⟩
    | _ => exact p.elim
end Dn
set_option maxHeartbeats 4000000
/-! ## isinstance of a caught error that has a dict of its own -/
namespace PySem.W
open PySem PySem.Spec PySem.Calls PyProof.Rows
section
variable {prog : Program} {w : World} {A : Around} {E : Value → Shared → Prop} {s : Shared} {K : Frag} {x Cl : Addr} {ox od : Obj}
theorem findDataD {name : Str} {a g : Value} (hc : (clsIn K Cl).isSome = true) (ha : findIn K (.ref Cl) name = some (some a)) (hg : specialIn K a "__get__" = some (some g)) (ht : takesIn K a = some true) : findObj K Cl (some od) name = some (.bind g a) := by
  obtain ⟨cdl, hcl⟩ := Option.isSome_iff_exists.mp hc
  unfold findObj; rw [hcl, Option.bind_some, ha, Option.bind_some]; simp [hg, ht]
/-- what the class tells of its errors -/
structure ErrC (K : Frag) (Cl : Addr) : Prop where
  hg : findIn K (.ref Cl) "__getattribute__" = some (some (.builtin "BaseException.__getattribute__"))
  hk : findIn K (.ref Cl) "__getattr__" = some none
  hs : subIn K (.ref Cl) (.type "BaseException") = some true
  hd : hasDictIn K Cl = true
  ha : findIn K (.ref Cl) "__class__" = some (some (.builtin "object.__class__"))
  hn : specialIn K (.builtin "object.__class__") "__get__" = some (some (.builtin "getset_descriptor.__get__"))
  ht : takesIn K (.builtin "object.__class__") = some true
  hm : mroIn K Cl (.type "object") = some true
theorem askClassD {Q : Option Value → Shared → Prop} (T : ErrC K Cl) (X : K.In s.heap) (I : InstAt s.heap x ox Cl (some od)) (h : Q (some (.ref Cl)) { s with toks := s.toks + 1 }) : wpAny (model prog w) A (getAttr? (.ref x) "__class__") Q E s := by
  obtain ⟨cdl, hcl, _⟩ := any_some T.hd
  have hf : findObj K Cl (some od) "__class__" = some (.bind (.builtin "getset_descriptor.__get__") (.builtin "object.__class__")) := findDataD (by rw [hcl]; rfl) T.ha T.hn T.ht
  obtain ⟨hq, gq, dq, tq, oq⟩ := s
  have M0 := I.type (M := model prog w)
  have M1 := looks_findIn (M := model prog w) X T.hg
  have M2 := looks_findIn (M := model prog w) X T.hk
  have M3 := looks_find (M := model prog w) X I hf
  have subB : Looks (model prog w) hq (isInstance (.ref x) (.type "BaseException")) true := M0.andThen (looks_subIn X T.hs)
  have n2 : (Value.builtin "BaseException.__getattribute__" == Value.builtin "object.__getattribute__") = false := by decide +kernel
  have n1 : (onTheHeap (Value.ref Cl) && Value.builtin "BaseException.__getattribute__" == Value.builtin "object.__getattribute__") = false := by rw [n2]; rfl
  have n0 : (false && onTheHeap (Value.builtin "BaseException.__getattribute__")) = false := rfl
  unfold getAttr? getAttrBy? getAttrBy; refine wpAny_bind (wpAny_mkText (wpAny_bind (wpAny_attempt (wpAny_holding (wpAny_bind (M0.at (wpAny_bind (M1.at ?_))))))))
  show wpAny _ _ (if (onTheHeap (Value.ref Cl) && Value.builtin "BaseException.__getattribute__" == Value.builtin "object.__getattribute__") = true then _ else _) _ _ _
  rw [n1, if_neg Bool.false_ne_true]; unfold getAttrByItsOwn hookBefore
  refine wpAny_bind ?_; rw [if_pos (show onTheHeap (Value.ref Cl) = true from rfl)]
  refine M2.at ?_; refine wpAny_bind (wpAny_attempt (wpAny_holding ?_))
  unfold callGetattribute; rw [n0, if_neg Bool.false_ne_true]
  unfold boundAndCalled; rw [PySem.F.excAttr_ValueError.ga.bind (.ref x)]; refine wpAny_bind (wpAny_pure ?_)
  show wpAny _ _ (call (.builtin "BaseException.__getattribute__") [.ref x, .str "__class__" tq]) _ _ _
  refine wpAny_call (codeAny_call_builtin PySem.F.excAttr_ValueError.ga.plain PySem.F.entry_bexc_ga ?_); refine @check_slot (model prog w) _ _ ⟨hq, gq, dq, tq + 1, oq⟩ "BaseException.__getattribute__" "BaseException" "__getattribute__" (.ref x) [.str "__class__" tq] [] _ (by decide +kernel) (by decide +kernel) subB (PySem.F.args_bexc_ga (.ref x) (.str "__class__" tq)) ?_
  unfold Builtin.«object.__getattribute__»; refine wpAny_bind (wpAny_of_eq (a := ((Value.ref x : Value), [Value.str "__class__" tq])) (by first | rfl | (simp only [slotArgs]; rfl)) ?_)
  refine wpAny_bind (wpAny_pure (wpAny_bind (M0.at (wpAny_bind (M3.at ?_)))))
  show wpAny _ _ (holding [Value.builtin "object.__class__"] (call (.builtin "getset_descriptor.__get__") [.builtin "object.__class__", .ref x, .ref Cl]) >>= ret) _ _ _
  refine wpAny_bind (wpAny_holding (wpAny_call (class_get (s := ⟨hq, gq, dq, tq + 1, oq⟩) (ox := ox) (od := some od) X I T.hm ?_)))
  refine wpAny_pure ?_; show wpAny _ _ (handedOut (.ref Cl)) _ _ _
  rw [handedOut_of (v := .ref Cl) rfl]; first | exact wpAny_pure (wpAny_pure h) | exact wpAny_pure h | exact wpAny_pure (wpAny_bind (wpAny_pure (wpAny_pure h)))
theorem kitErrD (T : ErrC K Cl) : KitX K (.ref x) (.ref Cl) (fun h => InstAt h x ox Cl (some od)) where
  ty := fun _ _ _ I => I.type
  it := fun _ _ X _ => by
    obtain ⟨cdl, hcl, _⟩ := any_some T.hd
    unfold clsIn at hcl; split at hcl
    · rename_i c1 d1 cd1 sl1 ho
      intro A1 Q1 E1 s1 k1 q1
      unfold isType loadHead; exact wpAny_bind (wpAny_loadPart (k1 _ _ (X _ _ ho)) (wpAny_pure q1))
    · cases hcl
  ne := fun h tp dd its n sl X htp => by
    obtain ⟨cdl, hcl, _⟩ := any_some T.hd
    refine Bool.eq_false_iff.mpr fun q => ?_; have e : Cl = tp := Value.ref.inj (beq_iff_eq.mp q)
    subst e; unfold clsIn at hcl; split at hcl
    · rename_i c1 d1 cd1 sl1 ho
      have z := (X _ _ ho).symm.trans htp; cases z
    · cases hcl
  ca := fun X I k => askClassD T X I k
end
end PySem.W
set_option maxHeartbeats 4000000
namespace Dn
open PySem PySem.Spec PyProof.Rows L2

/-! ## a lambda that is handed to a def and called there -/
section
variable {X : Cx} {pins : List (Addr × Obj)} {σ : L2.St} {H : Hp} {s : Shared}
theorem actG {Eg : XK} {Ng : List Str} {qg : Str} {sg : Scope} {g f cd : Addr} {cdg pm ctv : Value} {params : Arguments} {body : Expr} {scope : Scope} {k i : Nat} {a : Str} {pn : List (Addr × Obj)} {xe : Value → Shared → Prop} {W : WX} {tb : XK → TE} {p1 p2 : Pos}
    (I : Inv X pins σ H s) (L : LamX.LamS X.env.scope scope) (hf : s.heap.get? f = some (PySem.W.kla_obj "<lambda>" (X.env.qual ++ "<lambda>") params body scope (cloFrom X.env.cells scope.names []) pm cd ctv)) (hfn : H f = none) (hfr : f ∉ frs X.stack)
    (hbind : bindArgs (PySem.W.kla_fn "<lambda>" (X.env.qual ++ "<lambda>") params body scope (cloFrom X.env.cells scope.names []) pm (.ref cd) ctv) ⟨[], []⟩ = pure [])
    (tk : Takes ((cxOf (L2.CX X.prog X.w) X.prog X.w X.K X.mg X.base Ng qg sg g cdg X.A X.stack s H Eg).tr pn xe) W) (hG : X.A.guards = some []) (hr : Room (k + 1) (X.A.deeper (PyProof.Rows.envOfC qg sg s.heap.objs.size g cdg)))
    (hbody : ∀ (A : Around) (outer : List Env) (s : Shared) (H : Hp) (E : XK), A.guards = some [] → Room k (A.deeper (LamX.lamEnv X scope s.heap.objs.size f cd)) → PE (LamX.lamCx X A outer s H E scope f cd) body (tb E))
    (hN : Ng[i]? = some a) (hv : Vis sg a) (hdb : (a == ("__debug__" : Str)) = false := by decide) (hcd : (a == ("__classdict__" : Str)) = false := by decide) :
    PE ((cxOf (L2.CX X.prog X.w) X.prog X.w X.K X.mg X.base Ng qg sg g cdg X.A X.stack s H Eg).tr pn xe) (.Call (.Name a p1) [] [] p2)
      (fun σZ HZ Q => σZ[i]? = some (some (.ref f)) ∧ HZ cd = some (LamX.CodeO cd (X.env.qual ++ "<lambda>")) ∧ tb (WE W σZ) σ HZ Q) := by
  constructor
  intro pinsZ sZ σZ HZ Q IZ hw
  obtain ⟨w1, w2, w3⟩ := hw
  apply wpAny_Call_Name_kw
  refine thn ((pe_var (pos := p1) (i := i) hN hv hdb hcd).run pinsZ sZ σZ HZ (fun v H1 => v = .ref f ∧ H1 = HZ) IZ ⟨.ref f, w1, rfl, rfl⟩) ?_
  intro u st hq
  obtain ⟨v, H1, I1, r1, ev, eH⟩ := hq
  subst ev
  rw [eH] at I1
  have eu : u = Value.ref f := r1
  subst eu
  have atF : st.heap.get? f = some (PySem.W.kla_obj "<lambda>" (X.env.qual ++ "<lambda>") params body scope (cloFrom X.env.cells scope.names []) pm cd ctv) :=
    I1.base.keep f _ hf hfn hfr (fun z => (by cases z))
  refine PySem.W.callWith_F0 ⟨_, _, _, _, atF⟩ ?_
  have un : Un (frs X.stack) [] H HZ s.heap st.heap := I1.base
  obtain ⟨⟨oc, vs, t, o1, o2, o3⟩, _, _⟩ := I1.hok cd _ w2
  have rc : codeAny (model X.prog X.w) (X.A.deeper (PyProof.Rows.envOfC qg sg s.heap.objs.size g cdg)) (.call (.ref f) ⟨[], []⟩)
      (CR (L2.CX X.prog X.w) (PyProof.Rows.envOfC qg sg s.heap.objs.size g cdg :: X.stack) X.prog X.w HZ st Q (WE W σZ)) st := by
    refine PySem.W.kla_callFunE hr.depth atF rfl L.co L.gen rfl ⟨cd, oc, vs, t, rfl, o1, o2, o3⟩ ?_
    rw [hbind]
    apply wpAny_pure
    refine wpAny_newFunctionEnv (fun y hy => (L.own y hy).2) (fun y hy => absurd hy (by simp)) (fun hh hns hsb => ⟨I1.nolimit.fresh _ hsb, ?_⟩) L.kind
    show codeAny _ _ (.expr body (LamX.lamEnv X scope st.heap.objs.size f cd)) _ _
    have kp : ∀ b o, st.heap.get? b = some o → hh.get? b = some o := fun b o e => hsb.extBut b o (Nat.ne_of_lt (Heap.lt_size e)) (Heap.get?_push_of_some _ e)
    have J : Inv (LamX.lamCx X (X.A.deeper (PyProof.Rows.envOfC qg sg s.heap.objs.size g cdg)) (PyProof.Rows.envOfC qg sg s.heap.objs.size g cdg :: X.stack) st HZ (WE W σZ) scope f cd) [] σ HZ { st with heap := hh, toks := st.toks + ([] : List (Str × Value)).length } :=
      LamX.lam_start2 I L I1.env0 hr.hd un hns kp
    refine PySem.W.kla_codeExpr (wpAny_mono ((hbody (X.A.deeper (PyProof.Rows.envOfC qg sg s.heap.objs.size g cdg)) _ st HZ _ hG (hr.deeper _)).run [] _ _ HZ Q J w3) ?_ fun e s' hq => hq)
    intro v s' hq
    obtain ⟨w', H', J', rv, q⟩ := hq
    exact ⟨w', H', J'.os, J'.bare, J'.base, J'.hok, rv, q⟩
  refine wpAny_call (codeAny_mono rc ?_)
  intro res s' hres
  match res, hres with
  | .error e, hres => exact passAt tk σZ pinsZ HZ st e s' I1 hres
  | .ok (.ret u), hres => exact I1.after hres
  | .ok .next, hres => exact False.elim hres
  | .ok .brk, hres => exact False.elim hres
  | .ok .cont, hres => exact False.elim hres
end
end Dn
set_option maxHeartbeats 4000000
namespace Dn
open PySem PySem.Spec PyProof.Rows L2

/-! ## a lambda is made; what it leaves alone -/
theorem lamMk {X : Cx} {pins : List (Addr × Obj)} {σ : L2.St} {H : Hp} {s : Shared} {T : List (Addr × Str)} {c P : Addr} {params : Arguments} {body : Expr} {scope : Scope} {pos : Pos} {E : Value → Shared → Prop} {Q : Value → Shared → Prop}
    (I : Inv X pins σ H s) (TB : LamX.TabB X.base X.mg c P) (hcd : X.env.code = .ref c) (hm : (P, X.env.qual ++ "<lambda>") ∈ T) (hu : ∀ p ∈ T, p.1 = P → p.2 = X.env.qual ++ "<lambda>") (hT : LamX.Tabs T H) (hdef : defaultsOf params X.env = ([], []))
    (hfr : ∀ y ∈ scope.names, y.2 = .free → ∃ c, X.env.cells.lookup y.1 = some c)
    (goon : ∀ (f cc : Addr) (pm ctv : Value) (H1 : Hp) (s1 : Shared), Inv X pins σ H1 s1 → (∀ b o, b ≠ P → H b = some o → H1 b = some o) → LamX.Tabs T H1 →
      s1.heap.get? f = some (PySem.W.kla_obj "<lambda>" (X.env.qual ++ "<lambda>") params body scope (cloFrom X.env.cells scope.names []) pm cc ctv) → H1 f = none → f ∉ frs X.stack → H1 cc = some (LamX.CodeO cc (X.env.qual ++ "<lambda>")) → Q (.ref f) s1) :
    wpAny (model X.prog X.w) X.A (eval (.Lambda params body scope pos) X.env) Q E s := by
  obtain ⟨ps, eP, tr, among⟩ := hT _ hm
  have objP : s.heap.get? P = some { cls := .none, data := .fields ps } := I.hok P _ eP
  have bltP := TB.bm.keeps I.bk
  have young : ∀ f, s.heap.objs.size ≤ f → f ∉ frs X.stack := by
    intro f hf z
    rcases List.mem_cons.mp (I.stkSub _ z) with e | e
    · have q := Nat.lt_of_lt_of_le I.lt hf
      rw [← e] at q
      exact Nat.lt_irrefl _ q
    · exact I.nofs hf e
  apply PySem.W.kla_eval hdef
  cases hc : codeAmong pos ps.toList with
  | some cv =>
    obtain ⟨cc, rfl, hco⟩ := among pos cv hc
    apply PySem.W.kla_makeFunctionHit (mg := X.mg) (c := c) (P := P) (ps := ps) (closure_ok hfr) I.ok.glob (I.mod.glob.keeps I.bk) hcd (TB.code.keeps I.bk) objP tr hc bltP
    intro ctv h2 tk hx hsz
    have I1 : Inv X pins σ H _ := I.kept (t' := tk) (h' := h2.push (PySem.W.kla_obj "<lambda>" (X.env.qual ++ "<lambda>") params body scope (cloFrom X.env.cells scope.names []) ((X.mg "__name__").getD .none) cc ctv)) fun b o e => Heap.get?_push_of_some _ (hx b o e)
    exact goon h2.objs.size cc _ ctv H _ I1 (fun _ _ _ e => e) hT (Heap.get?_push_size _ rfl) (I.hok.fresh hsz) (young _ hsz) hco
  | none =>
    apply PySem.W.kla_makeFunction (mg := X.mg) (c := c) (P := P) (ps := ps) (closure_ok hfr) I.ok.glob (I.mod.glob.keeps I.bk) hcd (TB.code.keeps I.bk) objP tr hc TB.gP bltP
    intro cc ctv h2 tk hx hge hlt hrec htb
    obtain ⟨c2, oc, vs, t, e2, hoc, hd, hv⟩ := hrec
    cases e2
    have hsz : s.heap.objs.size ≤ h2.objs.size := Nat.le_trans hge (Nat.le_of_lt hlt)
    have nC : H cc = none := I.hok.fresh hge
    have I1 := LamX.inv_table (q := X.env.qual ++ "<lambda>") (t' := tk) (more := #[rawInt pos.line, rawInt pos.col, .ref cc])
      (h' := h2.push (PySem.W.kla_obj "<lambda>" (X.env.qual ++ "<lambda>") params body scope (cloFrom X.env.cells scope.names []) ((X.mg "__name__").getD .none) cc ctv)) I eP
      (fun b o hb e => Heap.get?_push_of_some _ (hx b o hb e)) (Heap.get?_push_of_some _ htb) hge ⟨oc, vs, t, Heap.get?_push_of_some _ hoc, hd, hv⟩
    have same : ∀ b o, b ≠ P → H b = some o → upd (upd H P (.tbl (ps ++ #[rawInt pos.line, rawInt pos.col, .ref cc]))) cc (LamX.CodeO cc (X.env.qual ++ "<lambda>")) b = some o := by
      intro b o hb e
      rw [upd_ne (ne_of_none e nC), upd_ne hb]
      exact e
    have notP : ∀ (b : Addr) (q : Str), H b = some (LamX.CodeO b q) → b ≠ P := by
      intro b q e z
      subst z
      rw [eP] at e
      exact LamX.codeO_ne ps (Option.some.inj e).symm
    have rows : (ps ++ #[rawInt pos.line, rawInt pos.col, .ref cc]).toList = ps.toList ++ [rawInt pos.line, rawInt pos.col, .ref cc] := by simp
    refine goon h2.objs.size cc _ ctv _ _ I1 same ?_ (Heap.get?_push_size _ rfl) ?_ (young _ hsz) upd_same
    · intro p hp
      by_cases hb : p.1 = P
      · refine ⟨ps ++ #[rawInt pos.line, rawInt pos.col, .ref cc], ?_, ?_, ?_⟩
        · rw [hb, upd_ne (ne_of_none eP nC), upd_same]
        · rw [rows]
          exact PySem.TriplesOk_snoc _ _ _ _ tr
        · intro p' cv hcv
          rw [hu p hp hb]
          rw [rows] at hcv
          cases LamX.among_app _ tr hcv with
          | inl z =>
            obtain ⟨c0, e1, e2⟩ := among p' cv z
            exact ⟨c0, e1, same _ _ (notP _ _ e2) e2⟩
          | inr z => exact ⟨cc, z, upd_same⟩
      · obtain ⟨ps', a1, a2, a3⟩ := hT p hp
        refine ⟨ps', ?_, a2, ?_⟩
        · exact same _ _ hb a1
        · intro p' cv hcv
          obtain ⟨c0, e1, e2⟩ := a3 p' cv hcv
          exact ⟨c0, e1, same _ _ (notP _ _ e2) e2⟩
    · have n1 : h2.objs.size ≠ cc := Nat.ne_of_gt hlt
      have n2 : h2.objs.size ≠ P := Nat.ne_of_gt (Nat.lt_of_lt_of_le (Heap.lt_size objP) hsz)
      rw [upd_ne n1, upd_ne n2]
      exact I.hok.fresh hsz

/-! ## what the data layer makes of it -/
section
variable {F : Fr0} {C H H1 : Hp} {σ : L2.St} {ρ : Rho}
theorem RE.table {P : Addr} {q : Str} (R : RE KD F C σ H ρ) (hP : (P, q) ∈ F.tb) (e : ∀ b o, b ≠ P → H b = some o → H1 b = some o) (T1 : LamX.Tabs F.tb H1) : RE KD F C σ H1 ρ := by
  obtain ⟨ps, eP, _⟩ := R.tabs _ hP
  have nP : ∀ b o, H b = some o → (∀ ps, o ≠ .tbl ps) → H1 b = some o := fun b o h n => e b o (fun z => by
    subst z
    have z := h.symm.trans eP
    exact n ps (Option.some.inj z)) h
  have nO : ∀ j b, Own KD C σ H ρ j b → H1 b = H b := fun j b hb => by
    obtain ⟨_, o, h2, h3⟩ := hb.mem
    exact (nP b o h2 h3).trans h2.symm
  exact R.keep (Same.refl _) (fun b o h => nP b o (R.ch _ _ h) fun ps z => R.tabC.1 b ps (by rw [h, z]))
    (fun b o h1 h2 _ => ⟨h2, by
      by_cases hb : b = P
      · subst hb
        obtain ⟨ps', z, _⟩ := T1 _ hP
        exact ⟨_, z⟩
      · exact ⟨o, e b o hb h1⟩, fun _ n => nP b o h1 n⟩)
    (fun j b hb => ⟨hb.mem.1, nO j b hb⟩) (fun q _ h1 h2 _ hn => ⟨h1, nP _ _ h2 hn⟩) T1 R.tabC
def erase (r : Rho) : Rho := r.map fun o => match o with
  | some (.val d) => some (.val d)
  | _ => none
theorem erase_at {r : Rho} {i : Nat} {e : Ent} (h : (erase r)[i]? = some (some e)) : ∃ d, e = .val d ∧ r[i]? = some (some (.val d)) := by
  unfold erase at h
  rw [List.getElem?_map] at h
  cases q : r[i]? with
  | none =>
    rw [q] at h
    cases h
  | some o =>
    rw [q] at h
    cases o with
    | none => cases h
    | some en =>
      cases en with
      | val d =>
        cases h
        exact ⟨d, rfl, rfl⟩
      | _ => cases h
/-- the maker's slots, looked at from later on -/
theorem RE.later {CZ HZ : Hp} {T : List (Addr × Str)} (R : RE KD F C σ H ρ) (s1 : Same C CZ) (s2 : Same CZ HZ) (hT : LamX.Tabs T HZ) (hC : ColdOk CZ) : RE KD ⟨CZ, HZ, [], [], T, [], fun _ => none⟩ CZ σ HZ (erase ρ) := by
  refine ⟨Same.refl _, s2, fun b o h1 h2 => ⟨h2, ⟨o, h1⟩, fun _ _ => h1⟩, fun i e h => ?_, fun i j b h1 => ?_, fun i b h1 => ?_, fun p hp => (by cases hp), by unfold erase; rw [List.length_map]; exact R.len, fun q hq => (by cases hq), hT, hC, fun q hq => (by cases hq), fun _ _ z => (by cases z)⟩
  · obtain ⟨d, rfl, h2⟩ := erase_at h
    obtain ⟨v, A, e1, _, e2⟩ := R.sl i _ h2
    exact ⟨v, [], e1, rfl, dpMono s1 e2⟩
  · obtain ⟨e, v, A, z1, z2, z3, z4⟩ := h1
    obtain ⟨d, rfl, _⟩ := erase_at z1
    rw [z3.1] at z4
    cases z4
  · obtain ⟨e, v, A, z1, z2, z3, z4⟩ := h1
    obtain ⟨d, rfl, _⟩ := erase_at z1
    rw [z3.1] at z4
    cases z4
end
def mThk (th : Out PyData) : Mi PyData := fun r => match th with
  | .ok d _ => .ok d r
  | .ex c w _ => .ex c w r
  | .bad => .bad
end Dn
set_option maxHeartbeats 4000000
namespace Dn
open PySem PySem.Spec PyProof.Rows L2

/-! ## the handed-over lambda is called -/
theorem re_call0 {F : Fr0} {C H C' H' : Hp} {σ σ2 : L2.St} {ρ r : Rho} {T : List (Addr × Str)} (R : RE KD F C σ H ρ) (hT : F.tb = T) (R2 : RE KD ⟨C, H, [], [], T, [], fun _ => none⟩ C' σ2 H' r) : RE KD F C' σ H' ρ := by
  have x : CallExt KD T C H C' H' [] (outsOf r []) := end_Call (P := []) (as := []) rfl List.nodup_nil rfl R2
  rw [← hT] at x
  exact R.call (is := []) x List.nodup_nil .nil
section
variable {X : Cx} {pins : List (Addr × Obj)} {σ : L2.St} {H : Hp} {s : Shared}
theorem deThk {Eg : XK} {Ng : List Str} {qg : Str} {sg : Scope} {g f cd : Addr} {cdg pm ctv : Value} {params : Arguments} {body : Expr} {scope : Scope} {k i : Nat} {a : Str} {pn : List (Addr × Obj)} {xe : Value → Shared → Prop} {W : WX} {P : Pn} {p1 p2 : Pos} {m : Mi PyData} {F0 : Fr0} {C : Hp} {ρ : Rho}
    (I : Inv X pins σ H s) (L : LamX.LamS X.env.scope scope) (hf : s.heap.get? f = some (PySem.W.kla_obj "<lambda>" (X.env.qual ++ "<lambda>") params body scope (cloFrom X.env.cells scope.names []) pm cd ctv)) (hfn : H f = none) (hfr : f ∉ frs X.stack)
    (hbind : bindArgs (PySem.W.kla_fn "<lambda>" (X.env.qual ++ "<lambda>") params body scope (cloFrom X.env.cells scope.names []) pm (.ref cd) ctv) ⟨[], []⟩ = pure [])
    (tk : Takes ((cxOf (L2.CX X.prog X.w) X.prog X.w X.K X.mg X.base Ng qg sg g cdg X.A X.stack s H Eg).tr pn xe) W) (hG : X.A.guards = some []) (hr : Room (k + 1) (X.A.deeper (PyProof.Rows.envOfC qg sg s.heap.objs.size g cdg)))
    (R : RE KD F0 C σ H ρ) (hco : H cd = some (LamX.CodeO cd (X.env.qual ++ "<lambda>"))) (hP : ∀ F, FOk F P → (i, f) ∈ F.rw ∧ Same C F.C0 ∧ (∀ b q, H b = some (LamX.CodeO b q) → F.H0 b = some (LamX.CodeO b q)) ∧ F.pp = [] ∧ Same F.C0 F.H0)
    (hbody : ∀ (A : Around) (outer : List Env) (s : Shared) (H : Hp) (E : XK), A.guards = some [] → Room k (A.deeper (LamX.lamEnv X scope s.heap.objs.size f cd)) → DE (LamX.lamCx X A outer s H E scope f cd) (fun cls d _ H' => E cls d H') ⟨[], P.tb, fun _ => True⟩ m body)
    (hN : Ng[i]? = some a) (hv : Vis sg a) (hdb : (a == ("__debug__" : Str)) = false := by decide) (hcd : (a == ("__classdict__" : Str)) = false := by decide) :
    DE ((cxOf (L2.CX X.prog X.w) X.prog X.w X.K X.mg X.base Ng qg sg g cdg X.A X.stack s H Eg).tr pn xe) W P (mThk (m (erase ρ))) (.Call (.Name a p1) [] [] p2) := by
  intro F hF
  obtain ⟨hi, hC, hH, hpp, hS⟩ := hP F hF
  refine peImp (actG (tb := fun E σ H Q => ∃ F, FOk F ⟨[], P.tb, fun _ => True⟩ ∧ tM X F (fun cls d _ H' => E cls d H') (RelD X) m σ H Q) I L hf hfn hfr hbind tk hG hr ?_ hN hv hdb hcd) ?_
  · intro A outer s H E hG2 hr2
    constructor
    intro pins s1 σ1 H1 Q I1 ⟨F1, hF1, h⟩
    exact (hbody A outer s H E hG2 hr2 F1 hF1).run pins s1 σ1 H1 Q I1 h
  · intro σZ HZ Q ⟨CZ, ρZ, RZ, h⟩
    have hCZ : Same C CZ := hC.trans RZ.c0
    refine ⟨RZ.raw _ hi, ?_, ⟨CZ, HZ, [], [], P.tb, [], fun _ => none⟩, ⟨rfl, rfl, trivial⟩, CZ, erase ρ, R.later hCZ RZ.ch (by rw [← hF.2.1]; exact RZ.tabs) RZ.tabC, ?_⟩
    · have e := hH _ _ hco
      cases q : F.C0 cd with
      | none => exact (RZ.fr cd _ e q).2.2 (by rw [hpp]; intro p hp; cases hp) LamX.codeO_ne
      | some o =>
        have y := hS _ _ q
        rw [e] at y
        cases y
        exact RZ.ch _ _ (RZ.c0 _ _ q)
    · unfold mThk at h
      cases e : m (erase ρ) with
      | ok d r =>
        simp only [e] at h
        exact fun v C' H' s1 R1 dv => h v C' H' s1 (re_call0 RZ hF.2.1 R1) dv
      | ex c w r =>
        simp only [e] at h
        exact fun A d v C' H' hm s1 R1 q1 q2 => h A d v C' H' hm s1 (re_call0 RZ hF.2.1 R1) q1 q2
      | bad =>
        simp only [e] at h
        exact h
end

/-! ## a def that gets a lambda first -/
def rhoL (n : Nat) (ds : List PyData) : Rho := none :: ds.map (fun d => some (Ent.val d)) ++ List.replicate (n - (ds.length + 1)) none
inductive FT where
  | rt (d : PyData)
  | ex (c : Str) (w : PyData)
  | bad
def fnT (body : Out PyData → Rho → Fl) (n : Nat) : Out PyData → List PyData → FT := fun th ds => match body th (rhoL n ds) with
  | .nx _ => .rt .none
  | .rt (.cold d) _ => .rt d
  | .rt _ _ => .bad
  | .ex c w _ => .ex c w
  | _ => .bad
/-- what the context of that def is told of the lambda: calling it is worth th -/
def Thunk (X : Cx) (ok : Fr0 → Prop) (T : List (Addr × Str)) (a : Str) (th : Out PyData) : Prop :=
  ∀ (W : WX) (pn : List (Addr × Obj)) (xe : Value → Shared → Prop) (p1 p2 : Pos), Takes (X.tr pn xe) W → DE (X.tr pn xe) W ⟨[0], T, ok⟩ (mThk th) (.Call (.Name a p1) [] [] p2)
structure DfnT (Pg : Program) (w : World) (K : PySem.W.Frag) (mg : Str → Option Value) (base : Heap) (T : List (Addr × Str)) (k : Nat) (x : Str) (n : Nat) (fm : Out PyData → List PyData → FT) : Prop where
  ex : ∃ (g : Addr) (oc dV kV doc pm cdv ct : Value) (an od : Option Addr) (osl : Array (Option Value)) (st : Stmt) (a : Str) (ps N : List Str) (body : Out PyData → Rho → Fl), mg x = some (.ref g) ∧ PySem.W.keepIn K (.ref g) = true ∧
    K.lookup g = some ⟨oc, od, .func (PySem.W.fnOf x x (defArgs st) (defBody st) (defScope st) dV kV doc pm an cdv ct), osl⟩ ∧ PySem.W.codeIn K cdv x = true ∧ L2.Binds K (PySem.W.fnOf x x (defArgs st) (defBody st) (defScope st) dV kV doc pm an cdv ct) (a :: ps) [] ∧
    FnScope N (a :: ps) (defScope st) ∧ N[0]? = some a ∧ Vis (defScope st) a ∧ (a == ("__debug__" : Str)) = false ∧ (a == ("__classdict__" : Str)) = false ∧ ps.length = n ∧ n + 1 ≤ N.length ∧ fm = fnT body N.length ∧
    ∀ (th : Out PyData) (ok : Fr0 → Prop) (A : Around) (outer : List Env) (s : Shared) (H : Hp) (E : XK), A.guards = some [] → Room k (A.deeper (PyProof.Rows.envOfC x (defScope st) s.heap.objs.size g cdv)) →
      Thunk (cxOf (L2.CX Pg w) Pg w K mg base N x (defScope st) g cdv A outer s H E) ok T a th →
      DSs (cxOf (L2.CX Pg w) Pg w K mg base N x (defScope st) g cdv A outer s H E) (fun cls d _ H' => E cls d H') ⟨[0], T, ok⟩ (body th) (defBody st)
def mLam (fm : Out PyData → List PyData → FT) (m : Mi PyData) (ds : List PyData) : Mi PyData := fun r => match fm (m (erase r)) ds with
  | .rt d => .ok d r
  | .ex c w => .ex c w r
  | .bad => .bad
theorem start_L {T : List (Addr × Str)} {N : List Str} {f : Addr} {vs : List V} {ds : List PyData} {C H : Hp} (hs : Same C H) (hT : LamX.Tabs T H) (hC : ColdOk C) (hp : DpAll KD C vs ds) (hl : vs.length + 1 ≤ N.length) :
    RE KD ⟨C, H, [], [], T, [(0, f)], fun _ => none⟩ C (L2.start N (.ref f :: vs)) H (rhoL N.length ds) := by
  have hlen := dpaLen hp
  have at_ : ∀ (i : Nat) (e : Ent), (rhoL N.length ds)[i]? = some (some e) → ∃ j d, i = j + 1 ∧ ds[j]? = some d ∧ e = .val d := by
    intro i e h
    unfold rhoL at h
    cases i with
    | zero => simp at h
    | succ j =>
      simp only [List.cons_append, List.getElem?_cons_succ] at h
      by_cases hj : j < ds.length
      · rw [List.getElem?_append_left (by simpa using hj)] at h
        rw [List.getElem?_map] at h
        cases q : ds[j]? with
        | none =>
          rw [q] at h
          cases h
        | some d =>
          rw [q] at h
          cases h
          exact ⟨j, d, rfl, q, rfl⟩
      · rw [List.getElem?_append_right (by simpa using hj)] at h
        have z := List.mem_of_getElem? h
        simp at z
  have noh : ∀ (i : Nat) (b : Addr), ¬ Own KD C (L2.start N (.ref f :: vs)) H (rhoL N.length ds) i b := fun i b ⟨e, v, A, h1, h2, h3, h4⟩ => by
    obtain ⟨j, d, _, _, rfl⟩ := at_ i _ h1
    rw [h3.1] at h4
    cases h4
  refine ⟨Same.refl _, hs, fun b o h1 h2 => ⟨h2, ⟨o, h1⟩, fun _ _ => h1⟩, fun i e h => ?_, fun i j b h1 => absurd h1 (noh i b), fun i b h1 => absurd h1 (noh i b), fun p hp => (by cases hp), ?_, fun q hq => (by cases hq), hT, hC, fun q hq => ?_, fun _ _ z => (by cases z)⟩
  · obtain ⟨j, d, rfl, q, rfl⟩ := at_ i e h
    obtain ⟨v, e1, e2⟩ := dpaGet hp q
    refine ⟨v, [], ?_, rfl, e2⟩
    unfold L2.start
    have hj : j < vs.length := (List.getElem?_eq_some_iff.mp e1).1
    rw [List.getElem?_append_left (by simpa using hj)]
    simp [e1]
  · unfold L2.start rhoL
    simp [hlen]
    try omega
  · have e := List.mem_singleton.mp hq
    subst e
    simp [L2.start]

theorem re_back {F : Fr0} {C H C' H' : Hp} {σ σ2 : L2.St} {ρ r : Rho} {T : List (Addr × Str)} {rw' : List (Nat × Addr)} (R : RE KD F C σ H ρ) (hT : F.tb = T) (R2 : RE KD ⟨C, H, [], [], T, rw', fun _ => none⟩ C' σ2 H' r) : RE KD F C' σ H' ρ := by
  have x : CallExt KD T C H C' H' [] [] := ⟨R2.c0, R2.ch, fun b o h1 h2 => by
    obtain ⟨e1, e2, e3⟩ := R2.fr b o h1 h2
    exact ⟨e1, e2, fun _ nt => e3 (fun p hp => by cases hp) nt⟩, R2.tabs, R2.tabC, .nil, fun k k' a a' B B' D D' e e' b h1 => by simp at h1⟩
  rw [← hT] at x
  exact R.call (is := []) x List.nodup_nil .nil
/-- arguments that are constants -/
def ConstA (X : Cx) (es : List Expr) (ds : List PyData) : Prop := ∃ vs, PA X es (fun _ H Q => Q vs H) ∧ (∀ C, DpAll KD C vs ds) ∧ ds.length = es.length
theorem caNil {X : Cx} : ConstA X [] [] := ⟨[], paImp pa_nil fun σ H Q h => h, fun _ => .nil, rfl⟩
theorem caBl {X : Cx} {b : Bool} {j pos} {es : List Expr} {ds : List PyData} (h : ConstA X es ds) (hs : starEach (.Constant (.bool b) j pos :: es) X.env = (false, eval (.Constant (.bool b) j pos) X.env) :: starEach es X.env := by rfl) : ConstA X (.Constant (.bool b) j pos :: es) (.bool b :: ds) := by
  obtain ⟨vs, h1, h2, h3⟩ := h
  exact ⟨.bl b :: vs, paImp (pa_cons pe_bl h1 hs) fun σ H Q q => q, fun C => .cons (.bl b) (h2 C), by simp [h3]⟩
theorem deLam {X : Cx} {W : WX} {P : Pn} {x : Str} {params : Arguments} {body : Expr} {scope : Scope} {m : Mi PyData} {es : List Expr} {ds : List PyData} {fm : Out PyData → List PyData → FT} {k n : Nat} {c Pt : Addr} {p lpos pos : Pos}
    (D : DfnT X.prog X.w X.K X.mg X.base P.tb (k + 1) x n fm) (hs : X.stack = X.env :: X.outer) (hfm : X.env.frame = some X.env.locals) (hG : X.A.guards = some []) (hr : Room (k + 2) X.A) (tk : Takes X W)
    (TB : LamX.TabB X.base X.mg c Pt) (hcode : X.env.code = .ref c) (hmT : (Pt, X.env.qual ++ "<lambda>") ∈ P.tb) (hu : ∀ p ∈ P.tb, p.1 = Pt → p.2 = X.env.qual ++ "<lambda>") (L : LamX.LamS X.env.scope scope) (hdef : defaultsOf params X.env = ([], []))
    (hbind : ∀ (q : Str) (cl : List (Str × Addr)) (pm cv ctv : Value), bindArgs (PySem.W.kla_fn "<lambda>" q params body scope cl pm cv ctv) ⟨[], []⟩ = pure [])
    (hbody : ∀ (A : Around) (outer : List Env) (s : Shared) (H : Hp) (E : XK) (f cd : Addr), A.guards = some [] → Room k (A.deeper (LamX.lamEnv X scope s.heap.objs.size f cd)) → DE (LamX.lamCx X A outer s H E scope f cd) (fun cls d _ H' => E cls d H') ⟨[], P.tb, fun _ => True⟩ m body)
    (ha : ConstA X es ds) (hg : Gl X x) (hn : es.length = n := by rfl) (hdb : (x == ("__debug__" : Str)) = false := by decide)
    (he : starEach (.Lambda params body scope lpos :: es) X.env = (false, eval (.Lambda params body scope lpos) X.env) :: starEach es X.env := by rfl) (hpl : (backTo pos (starEach es X.env)).any (·.1) = false := by rfl) :
    DE X W P (mLam fm m ds) (.Call (.Name x p) (.Lambda params body scope lpos :: es) [] pos) := by
  intro F hF
  constructor
  intro pins s σ H Q I ⟨C, ρ, R, h⟩
  have hT : F.tb = P.tb := hF.2.1
  obtain ⟨g, oc, dV, kV, doc, pm, cdv, ct, an, od, osl, st, a, ps, N, bodyM, hm, hk, lk, hcg, hb, Sg, hN0, hva, hda, hca, hpl2, hle, efm, hB⟩ := D.ex
  obtain ⟨vs, pa, dA, lA⟩ := ha
  refine wpAny_Call_Name_kw (ld_glob I hg hm ?_ hdb)
  refine PySem.W.callWith_K (h₀ := X.base) I.ok.mod.kin hk ?_ he hpl
  show wpAny _ _ (spliced ((false, eval (.Lambda params body scope lpos) X.env) :: backTo pos (starEach es X.env))) _ _ s
  refine PySem.Calls.spliced_cons (lamMk I TB hcode hmT hu (by rw [← hT]; exact R.tabs) hdef (L.has I.ok) fun f cd pm' ctv H1 s1 I1 eN T1 hf hfn hfr hco => ?_)
  have R1 : RE KD F C σ H1 ρ := R.table (by rw [hT]; exact hmT) eN (by rw [hT]; exact T1)
  have Ip : Inv X ((f, PySem.W.kla_obj "<lambda>" (X.env.qual ++ "<lambda>") params body scope (cloFrom X.env.cells scope.names []) pm' cd ctv) :: pins) σ H1 s1 := I1.pins_of fun q hq => by
    rcases List.mem_cons.mp hq with e | e
    · subst e
      refine ⟨hf, hfn, fun z => hfr ?_, fun z => hfr ?_, fun v z => by cases z⟩
      · rw [hs]
        exact List.mem_filterMap.mpr ⟨X.env, List.mem_cons_self, by rw [hfm]; exact congrArg some z.symm⟩
      · rw [hs]
        obtain ⟨e, he, q⟩ := List.mem_filterMap.mp z
        exact List.mem_filterMap.mpr ⟨e, List.mem_cons_of_mem _ he, q⟩
    · exact I1.pin q (List.mem_append_right _ e)
  refine thn (pa.run pos _ s1 σ H1 (fun us H2 => us = vs ∧ H2 = H1) Ip ⟨rfl, rfl⟩) fun us s2 ⟨ws, H2, I2', rv, e1, e2⟩ => ?_
  subst e1
  subst e2
  obtain ⟨hf2, hfn2, _⟩ := I2'.pin _ (List.mem_append_right _ List.mem_cons_self)
  have I2 : Inv X pins σ H2 s2 := I2'.pins_of fun q hq => I2'.pin q (List.mem_append_right _ (List.mem_cons_of_mem _ hq))
  refine ⟨I2.kIn, ?_⟩
  have hlw : ws.length = ps.length := (dpaLen (dA C)).trans (lA.trans (hn.trans hpl2.symm))
  have bd := hb s2 (.ref f :: us) I2.kIn (by simp [← rv.length, hlw])
  rw [List.append_nil] at bd
  apply wpAny_call
  have rc : codeAny (model X.prog X.w) X.A (.call (.ref g) ⟨.ref f :: us, []⟩) (CR (L2.CX X.prog X.w) X.stack X.prog X.w H2 s2 Q (WE W σ)) s2 := by
    refine LamX.run_ofS (N := N) (ps := a :: ps) (us := .ref f :: us) (vs := .ref f :: ws) lk hcg Sg hr I2.env0 bd (.cons rfl rv) (by simp [hlw]) fun hr' => ?_
    let F2 : Fr0 := ⟨C, H2, [], [], P.tb, [(0, f)], fun _ => none⟩
    have TH : Thunk (cxOf (L2.CX X.prog X.w) X.prog X.w X.K X.mg X.base N x (defScope st) g cdv X.A X.stack s2 H2 (WE W σ)) (fun F => F = F2) P.tb a (m (erase ρ)) := fun W' pn xe p1 p2 tk' =>
      deThk (i := 0) I2 L hf2 hfn2 hfr (hbind _ _ _ _ _) tk' hG hr' R1 hco (fun F hF2 => by
        have e : F = F2 := hF2.2.2
        subst e
        exact ⟨List.mem_singleton.mpr rfl, Same.refl _, fun _ _ h => h, rfl, R1.ch⟩) (fun A outer s H E hG2 hr2 => hbody A outer s H E f cd hG2 hr2) hN0 hva hda hca
    refine ⟨_, hB (m (erase ρ)) (fun F => F = F2) X.A X.stack s2 H2 (WE W σ) hG hr' TH F2 ⟨rfl, rfl, rfl⟩, C, rhoL N.length ds, start_L R1.ch (by rw [← hT]; exact R1.tabs) R1.tabC (dA C) (by rw [hlw, hpl2]; exact hle), ?_⟩
    unfold mLam at h
    rw [efm] at h
    unfold fnT at h
    cases eb : bodyM (m (erase ρ)) (rhoL N.length ds) with
    | nx r =>
      simp only [eb] at h
      exact fun σ' C' H' s' R' => h .non C' H' s' (re_back R1 hT R') .non
    | rt d r =>
      cases d with
      | cold d =>
        simp only [eb] at h
        exact fun v σ' C' H' s' R' dv => h v C' H' s' (re_back R1 hT R') dv
      | fresh ds =>
        simp only [eb] at h
        exact h.elim
      | tree e =>
        simp only [eb] at h
        exact h.elim
    | ex c w r =>
      simp only [eb] at h
      exact fun σ' A' d v C' H' hm s' R' q1 q2 => h A' d v C' H' hm s' (re_back R1 hT R') q1 q2
    | bk r =>
      simp only [eb] at h
      exact h.elim
    | ct r =>
      simp only [eb] at h
      exact h.elim
    | bad =>
      simp only [eb] at h
      exact h.elim
  refine codeAny_mono rc fun res s3 hres => ?_
  match res, hres with
  | .error e, hres => exact passAt tk σ pins H2 s2 e s3 I2 hres
  | .ok (.ret u), hres => exact I2.after hres
  | .ok .next, hres => exact False.elim hres
  | .ok .brk, hres => exact False.elim hres
  | .ok .cont, hres => exact False.elim hres
end Dn
set_option maxHeartbeats 4000000
namespace Dn
open PySem PySem.Spec PyProof.Rows L2

/-! ## try .. except x as n -/
def unslot (i : Nat) : Fl → Fl
  | .nx r => .nx (r.set i none)
  | .bk r => .bk (r.set i none)
  | .ct r => .ct (r.set i none)
  | .rt d r => .rt d (r.set i none)
  | .ex _ _ _ => .bad
  | .bad => .bad
def sTry (i : Nat) (isC : Str → Option Bool) (body : Rho → Fl) (suite : Str → PyData → Rho → Fl) : Rho → Fl := fun r => match body r with
  | .ex c w r' => (match isC c with
      | some true => if i < r'.length then unslot i (suite c w (r'.set i none)) else .bad
      | some false => .ex c w r'
      | none => .bad)
  | o => o
/-- what the suite knows of the error that it holds at a: its own dict dd, the value w in it -/
def Held (i : Nat) (a dd : Addr) (w : PyData) (F : Fr0) : Prop := (∃ v, F.B dd = some (xw dd v) ∧ Dp KD F.B v w) ∧ (i, a) ∈ F.rw
theorem RvOk.sub {N N' : Addr → Prop} {H0 C H : Hp} {v : V} {d : Rv} (h : RvOk N H0 C H v d) (s : ∀ b, N' b → N b) : RvOk N' H0 C H v d := by
  cases d with
  | cold d => exact h
  | fresh ds =>
    obtain ⟨p, ws, h1, h2, h3, h4, h5, h6⟩ := h
    exact ⟨p, ws, h1, h2, h3, h4, h5, fun z => h6 (s _ z)⟩
  | tree e =>
    obtain ⟨A, h1, h2, h3⟩ := h
    exact ⟨A, h1, h2, fun b hb => ⟨(h3 b hb).1, fun z => (h3 b hb).2 (s b z)⟩⟩
theorem Own.ofSet {K : PySem.W.Frag} {C H : Hp} {σ : L2.St} {ρ : Rho} {i j : Nat} {o : Option V} {b : Addr} (h : Own K C (σ.set i o) H (ρ.set i none) j b) : Own K C σ H ρ j b := by
  obtain ⟨e, v, A, h1, h2, h3, h4⟩ := h
  by_cases hij : i = j
  · subst hij
    by_cases hl : i < ρ.length
    · rw [List.getElem?_set_self hl] at h1
      cases h1
    · rw [List.getElem?_eq_none (by rw [List.length_set]; omega)] at h1
      cases h1
  · rw [List.getElem?_set_ne hij] at h1 h2
    exact ⟨e, v, A, h1, h2, h3, h4⟩
theorem RE.suiteIn {F : Fr0} {C H : Hp} {σ : L2.St} {ρ : Rho} {i : Nat} {a : Addr} (R : RE KD F C σ H ρ) (hp : ∀ p ∈ F.pp.map (·.1) ++ F.rw.map (·.1), p ≠ i) (hl : i < ρ.length) : RE KD { F with rw := F.rw ++ [(i, a)], B := C } C (σ.set i (some (.ref a))) H (ρ.set i none) := by
  have R' := R.drop (o := some (.ref a)) hp
  refine ⟨R'.c0, R'.ch, R'.fr, R'.sl, R'.inj, R'.own, R'.pin, R'.len, R'.gds, R'.tabs, R'.tabC, fun q hq => ?_, Same.refl _⟩
  rcases List.mem_append.mp hq with z | z
  · exact R'.raw q z
  · have e := List.mem_singleton.mp z
    subst e
    rw [List.getElem?_set_self (by rw [R.len]; exact hl)]
theorem RE.suiteOut {F : Fr0} {C C0 H : Hp} {σ : L2.St} {ρ : Rho} {i : Nat} {a : Addr} (R : RE KD { F with rw := F.rw ++ [(i, a)], B := C0 } C σ H ρ) (hp : ∀ p ∈ F.pp.map (·.1) ++ F.rw.map (·.1), p ≠ i) (hB : Same F.B C) : RE KD F C (σ.set i none) H (ρ.set i none) := by
  have R' : RE KD F C σ H ρ := ⟨R.c0, R.ch, R.fr, R.sl, R.inj, R.own, R.pin, R.len, R.gds, R.tabs, R.tabC, fun q hq => R.raw q (List.mem_append_left _ hq), hB⟩
  exact R'.drop hp
section
variable {X : Cx} {W : WX} {P : Pn} {x n : Str} {cv : Value} {i : Nat} {body suite : List Stmt} {b0 : Stmt} {np pos pos2 : Pos} {mb : Rho → Fl} {ms : Str → PyData → Rho → Fl} {isC : Str → Option Bool}
theorem dsTry (hs : X.stack = X.env :: X.outer) (hf : X.env.frame = some X.env.locals) (hN : X.N.Nodup) (hi : X.N[i]? = some n) (hln : X.env.kindOf n = some .local) (hc : Names X x cv) (tk : Takes X W) (hip : i ∉ P.ps)
    (hC : ∀ c b A, isC c = some b → X.mg c = some (.ref A) → PySem.W.exmOne X.K (.ref A) cv = some b)
    (hb : ∀ (W' : WX) (pn : List (Addr × Obj)) (xe : Value → Shared → Prop), Takes (X.tr pn xe) W' → DSs (X.tr pn xe) W' P mb body)
    (hsu : ∀ (c : Str) (w : PyData) (a A dd : Addr) (oe : Obj) (pn : List (Addr × Obj)) (ok : Fr0 → Prop), isC c = some true → X.mg c = some (.ref A) → Zc (.ref A) (some dd) oe → (∃ vs, oe.data = .fields vs) → (∀ F, ok F → Held i a dd w F) →
      DSs (X.suite a ((a, oe) :: pn)) (fun _ _ _ _ => False) ⟨P.ps ++ [i], P.tb, ok⟩ (ms c w) (b0 :: suite)) :
    DS X W P (sTry i isC mb ms) (.Try body [.ExceptHandler (some (.Name x np)) (some n) (b0 :: suite) pos2] [] [] pos) := by
  intro F hF
  have nP := notPin hF hip
  refine psImp (ps_try_as (i := i) (Wout := W) (tb := fun W' => tS X F W' mb)
    (ts := fun a cls d D σ H => ∃ (c : Str) (w : PyData) (A dd : Addr) (C : Hp), isC c = some true ∧ cls = .ref A ∧ d = some dd ∧ X.mg c = some (.ref A) ∧ Held i a dd w { F with rw := F.rw ++ [(i, a)], B := C } ∧ tS X { F with rw := F.rw ++ [(i, a)], B := C } (fun _ _ _ _ => False) (ms c w) D σ H)
    hs hf hN hi hln hc tk (fun W' pn xe tk' _ => hb W' pn xe tk' F hF) (fun a oe cls d pn hz hv => ?_)) fun D σ H ⟨C, ρ, R, h⟩ => ⟨C, ρ, R, ?_⟩
  · constructor
    intro pins s σ H D I ⟨c, w, A, dd, C, e1, e2, e3, e4, e5, h⟩
    subst e2
    subst e3
    exact (hsu c w a A dd oe pn (fun F' => F' = { F with rw := F.rw ++ [(i, a)], B := C }) e1 e4 hz hv (fun F' e => by subst e; exact e5) { F with rw := F.rw ++ [(i, a)], B := C } ⟨by
      show F.pp.map (·.1) ++ (F.rw ++ [(i, a)]).map (·.1) = P.ps ++ [i]
      rw [List.map_append, ← List.append_assoc, hF.1]
      rfl, hF.2.1, rfl⟩).run pins s σ H D I h
  · unfold sTry at h
    cases e : mb ρ with
    | nx r =>
      simp only [e] at h
      exact h
    | bk r =>
      simp only [e] at h
      exact h
    | ct r =>
      simp only [e] at h
      exact h
    | rt d r =>
      simp only [e] at h
      exact h
    | bad =>
      simp only [e] at h
      exact h
    | ex c w r =>
      simp only [e] at h
      intro σ' A dd v C' H' hm s1 R1 hd dv
      cases ec : isC c with
      | none =>
        simp only [ec] at h
        exact h.elim
      | some b =>
        refine ⟨b, hC c b A ec hm, fun hb => ?_, fun hb => ?_⟩
        · subst hb
          simp only [ec] at h
          intro a na
          by_cases hl : i < r.length
          · rw [if_pos hl] at h
            refine ⟨c, w, A, dd, C', ec, rfl, rfl, hm, ⟨⟨v, hd, dv⟩, List.mem_append_right _ (List.mem_singleton.mpr rfl)⟩, C', r.set i none, R1.suiteIn nP hl, ?_⟩
            cases es : ms c w (r.set i none) with
            | nx r2 =>
              simp only [es, unslot] at h
              exact fun σ2 C2 H2 s2 R2 => h _ C2 H2 (s1.trans s2) (R2.suiteOut nP (R1.bb.trans s2))
            | bk r2 =>
              simp only [es, unslot] at h
              exact fun σ2 C2 H2 s2 R2 => h _ C2 H2 (s1.trans s2) (R2.suiteOut nP (R1.bb.trans s2))
            | ct r2 =>
              simp only [es, unslot] at h
              exact fun σ2 C2 H2 s2 R2 => h _ C2 H2 (s1.trans s2) (R2.suiteOut nP (R1.bb.trans s2))
            | rt d r2 =>
              simp only [es, unslot] at h
              exact fun v2 σ2 C2 H2 s2 R2 d2 => h v2 _ C2 H2 (s1.trans s2) (R2.suiteOut nP (R1.bb.trans s2)) (d2.sub fun b ⟨j, hj⟩ => ⟨j, Own.ofSet hj⟩)
            | ex c2 w2 r2 =>
              simp only [es, unslot] at h
              exact h.elim
            | bad =>
              simp only [es, unslot] at h
              exact h.elim
          · rw [if_neg hl] at h
            exact h.elim
        · subst hb
          simp only [ec] at h
          exact h σ' A dd v C' H' hm s1 R1 hd dv

/-! ### what the suite asks of its error -/
def rIsD (K : PySem.W.Frag) (D a dd : Addr) : List V → Hp → VK → Prop := fun xs H Q => ∃ (c : V) (cv : Value) (b : Bool) (v : V), xs = [.ref a, c] ∧ (∀ u, RelV c u → u = cv) ∧ PySem.W.kitOne K (.ref D) cv = some b ∧ H dd = some (xw dd v) ∧ Q (.bl b) H
theorem callIsD {a D dd : Addr} {oe : Obj} {pn : List (Addr × Obj)} (T : PySem.W.ErrC X.K D) (hz : Zc (.ref D) (some dd) oe) (hv : ∃ vs, oe.data = .fields vs) : CallR (X.suite a ((a, oe) :: pn)) (.builtin "isinstance") (rIsD X.K D a dd) := by
  intro pins s σ H xs us Q I r h
  obtain ⟨c, cv, b, v, rfl, hcv, e, hd, q⟩ := h
  cases r with
  | cons rx rr =>
    cases rr with
    | cons rt rr =>
      cases rr
      cases rx
      have ec := hcv _ rt
      subst ec
      obtain ⟨hget, _⟩ := I.pin (a, oe) (List.mem_append.mpr (.inl List.mem_cons_self))
      obtain ⟨vs, hv⟩ := hv
      obtain ⟨mA, hns, _⟩ := xw_at (I.hok dd _ hd)
      obtain ⟨od, ho, _⟩ := lookIn_ns hns
      have J : PySem.W.InstAt s.heap a oe D (some od) := ⟨hget, hz.1, by unfold PySem.W.notCls; rw [hv] <;> rfl, by rw [hz.2]; exact ho⟩
      exact PySem.W.kia_one (PySem.W.kitErrD T) I.kIn J e (fun z => nomatch z) fun tk => ⟨.bl b, H, I.kept (t' := tk) fun _ _ z => z, rfl, q⟩
def mIsE (o : Option Bool) : Mi PyData := Mi.opt (o.map PyData.bool)
theorem deIsE {ok : Fr0 → Prop} {ps : List Nat} {T : List (Addr × Str)} {w : PyData} {W' : WX} {a A dd : Addr} {oe : Obj} {pn : List (Addr × Obj)} {en cn : Str} {p1 p2 p3 pos : Pos} {j : Nat} {o : Option Bool} {u : Value}
    (EC : PySem.W.ErrC X.K A) (hz : Zc (.ref A) (some dd) oe) (hv : ∃ vs, oe.data = .fields vs) (hok : ∀ F, ok F → Held j a dd w F) (he : PE (X.suite a ((a, oe) :: pn)) (.Name en p3) (tVar j))
    (hcn : ∃ v : V, PE (X.suite a ((a, oe) :: pn)) (.Name cn p2) (tC v) ∧ ∀ z, RelV v z → z = u) (hk : ∀ b, o = some b → PySem.W.kitOne X.K (.ref A) u = some b) (hg : Gl X "isinstance") (hm : X.mg "isinstance" = none)
    (hs : starEach [.Name en p3, .Name cn p2] X.env = (false, eval (.Name en p3) X.env) :: starEach [.Name cn p2] X.env := by rfl) (hs2 : starEach [.Name cn p2] X.env = (false, eval (.Name cn p2) X.env) :: starEach [] X.env := by rfl)
    (hpl : (backTo pos (starEach [.Name cn p2] X.env)).any (·.1) = false := by rfl) :
    DE (X.suite a ((a, oe) :: pn)) W' ⟨ps, T, ok⟩ (mIsE o) (.Call (.Name "isinstance" p1) [.Name en p3, .Name cn p2] [] pos) := fun F hF => by
  obtain ⟨⟨v, hB, _⟩, hr⟩ := hok F hF.2.2
  obtain ⟨vc, hvc, hu⟩ := hcn
  refine peImp (pe_callB (callIsD EC hz hv) hg hm (by decide +kernel) (pa_cons he (pa_cons hvc pa_nil hs2) hs) (by decide) (by decide) hs hpl) fun σ H Q ⟨C, ρ, R, h⟩ => ?_
  unfold mIsE at h
  cases o with
  | none => exact h.elim
  | some b =>
    exact ⟨_, R.raw _ hr, vc, u, b, v, rfl, hu, hk b rfl, R.ch _ _ (R.bb _ _ hB), poRet h R (.bl b)⟩
theorem deWhat {ok : Fr0 → Prop} {ps : List Nat} {T : List (Addr × Str)} {w : PyData} {W' : WX} {a A fI dd : Addr} {oe : Obj} {pn : List (Addr × Obj)} {en nmC : Str} {p3 pos : Pos} {j : Nat}
    (TX : PySem.WhX.WhTxt X.K X.mg nmC A fI) (hz : Zc (.ref A) (some dd) oe) (hv : ∃ vs, oe.data = .fields vs) (hok : ∀ F, ok F → Held j a dd w F) (he : PE (X.suite a ((a, oe) :: pn)) (.Name en p3) (tVar j))
    (hb : attributeBase (.Name en p3) "what" X.env (eval (.Name en p3) X.env) = eval (.Name en p3) X.env := by rfl) :
    DE (X.suite a ((a, oe) :: pn)) W' ⟨ps, T, ok⟩ (Mi.ret w) (.Attribute (.Name en p3) "what" pos) := fun F hF => by
  obtain ⟨⟨v, hB, dv⟩, hr⟩ := hok F hF.2.2
  refine peImp (pe_byWh TX hz hv he hb) fun σ H Q ⟨C, ρ, R, h⟩ => ?_
  exact ⟨_, R.raw _ hr, rfl, rfl, dd, v, rfl, R.ch _ _ (R.bb _ _ hB), poRet h R (dpMono R.bb dv)⟩
end
end Dn
set_option maxHeartbeats 4000000
namespace Dn
open PySem PySem.Spec PyProof.Rows L2

/-! ## a, b = (e1, e2) -/
def sPar (i j : Nat) (ms : Mi (List PyData)) : Rho → Fl := sBind ms fun ds r => match ds with
  | [d, e] => .nx ((r.set i (some (.val d))).set j (some (.val e)))
  | _ => .bad
def sParH (i j : Nat) (ma : Mi PyData) (mb : Mi (List PyData)) : Rho → Fl := sBind ma fun d => sBind mb fun xs r => .nx ((r.set i (some (.val d))).set j (some (.hot xs)))
theorem Own.ofSetVal {K : PySem.W.Frag} {C H : Hp} {σ : L2.St} {ρ : Rho} {i j : Nat} {o : Option V} {d : PyData} {b : Addr} (h : Own K C (σ.set i o) H (ρ.set i (some (.val d))) j b) : Own K C σ H ρ j b := by
  obtain ⟨e, v, A, h1, h2, h3, h4⟩ := h
  by_cases hij : i = j
  · subst hij
    by_cases hl : i < ρ.length
    · rw [List.getElem?_set_self hl] at h1
      cases h1
      rw [h3.1] at h4
      cases h4
    · rw [List.getElem?_eq_none (by rw [List.length_set]; omega)] at h1
      cases h1
  · rw [List.getElem?_set_ne hij] at h1 h2
    exact ⟨e, v, A, h1, h2, h3, h4⟩
section
variable {X : Cx} {W : WX} {P : Pn} {a b : Expr} {ma : Mi PyData} {i j : Nat} {x y : Str} {px py pt pt2 pos : Pos} {kt k2 : Nat}
theorem dsPar {ms : Mi (List PyData)} (hc : X.calm = true) (hN : X.N.Nodup) (hi : X.N[i]? = some x) (hj : X.N[j]? = some y) (hij : i ≠ j) (hx : X.env.scope.names.lookup x = some .local) (hy : X.env.scope.names.lookup y = some .local)
    (hip : i ∉ P.ps) (hjp : j ∉ P.ps) (h : DA X W P ms [a, b])
    (hw : swappedStores [.Tuple [.Name x px, .Name y py] kt pt] (.Tuple [a, b] k2 pt2) X.env = pure (some [x, y])) (hs : swapsWithSole [.Tuple [.Name x px, .Name y py] kt pt] (.Tuple [a, b] k2 pt2) pos.line X.env = pure false := by rfl) :
    DS X W P (sPar i j ms) (.Assign [.Tuple [.Name x px, .Name y py] kt pt] (.Tuple [a, b] k2 pt2) pos) := fun F hF =>
  psImp (ps_par hc hN hi hj hij hx hy (h F hF) hw hs) fun D σ H ⟨C, ρ, R, p⟩ => ⟨C, ρ, R, (posBind p).imp fun vs H1 ⟨C1, ρ1, ds, s1, R1, d1, h1⟩ => by
    obtain ⟨d1, d2⟩ := d1
    match ds, d2, d1, h1 with
    | [d, e], _, .cons v1 (.cons v2 .nil), h1 => exact ⟨_, _, rfl, h1 _ C1 H1 (Same.refl _) ((R1.setVal (notPin hF hip) v1).setVal (notPin hF hjp) v2)⟩⟩
theorem dsParH {mb : Mi (List PyData)} (hc : X.calm = true) (hN : X.N.Nodup) (hi : X.N[i]? = some x) (hj : X.N[j]? = some y) (hij : i ≠ j) (hx : X.env.scope.names.lookup x = some .local) (hy : X.env.scope.names.lookup y = some .local)
    (hip : i ∉ P.ps) (hjp : j ∉ P.ps) (ha : DE X W P ma a) (hb : DF X W P mb b)
    (hw : swappedStores [.Tuple [.Name x px, .Name y py] kt pt] (.Tuple [a, b] k2 pt2) X.env = pure (some [x, y])) (hs : swapsWithSole [.Tuple [.Name x px, .Name y py] kt pt] (.Tuple [a, b] k2 pt2) pos.line X.env = pure false := by rfl)
    (hs1 : starEach [a, b] X.env = (false, eval a X.env) :: starEach [b] X.env := by rfl) (hs2 : starEach [b] X.env = (false, eval b X.env) :: starEach [] X.env := by rfl) :
    DS X W P (sParH i j ma mb) (.Assign [.Tuple [.Name x px, .Name y py] kt pt] (.Tuple [a, b] k2 pt2) pos) := fun F hF =>
  psImp (ps_par hc hN hi hj hij hx hy (pa_cons (ha F hF) (pa_cons (hb F hF) pa_nil hs2) hs1) hw hs) fun D σ H ⟨C, ρ, R, p⟩ => ⟨C, ρ, R, (posBind p).imp fun v H1 ⟨C1, ρ1, d, s1, R1, d1, h1⟩ => ⟨C1, ρ1, R1, by
    unfold sBind at h1
    cases e : mb ρ1 with
    | ok xs r =>
      rw [e] at h1
      intro q ws C' H' s2 R2 hn hh hd hx h0 hg
      exact ⟨_, _, rfl, h1 _ C' H' s2 ((R2.setVal (notPin hF hip) (dpMono s2 d1)).setHot (notPin hF hjp) hn hh hd (fun k z => hx k (Own.ofSetVal z)) h0 hg)⟩
    | ex c w r =>
      rw [e] at h1
      exact h1 σ
    | bad =>
      rw [e] at h1
      exact h1⟩⟩
end

/-! ## f(a = .., b = ..) -/
def DK (X : Cx) (W : WX) (P : Pn) (m : Mi (List AEnt)) (kws : List Keyword) : Prop := ∀ F : Fr0, FOk F P → PK X kws (tM X F W (RelA X kws.length) m)
theorem pkImp {X : Cx} {kws : List Keyword} {t t' : TA} (h : PK X kws t) (i : ∀ (σ : L2.St) H Q, t' σ H Q → t σ H Q) : PK X kws t' := ⟨fun ps pins s σ H Q I w => h.run ps pins s σ H Q I (i σ H Q w)⟩
theorem dkNil {X : Cx} {W : WX} {P : Pn} : DK X W P aNil [] := fun F _ => pkImp pk_nil fun σ H Q ⟨C, ρ, R, h⟩ => poRet h R ⟨.nil, rfl⟩
theorem dkVal {X : Cx} {W : WX} {P : Pn} {a : Expr} {ma : Mi PyData} {ms : Mi (List AEnt)} {nm : Option Str} {kpos : Pos} {kws : List Keyword} (ha : DE X W P ma a) (hr : DK X W P ms kws) : DK X W P (aVal ma ms) (⟨nm, a, kpos⟩ :: kws) :=
  fun F hF => pkImp (pk_cons (ha F hF) (hr F hF)) fun σ H Q ⟨C, ρ, R, h⟩ => by
    refine ⟨C, ρ, R, (poBind h).imp fun x H1 ⟨C1, ρ1, d, s1, R1, d1, h1⟩ => ⟨C1, ρ1, R1, (poBind h1).imp fun xs H2 ⟨C2, ρ2, ds, s2, R2, d2, h2⟩ => ?_⟩⟩
    exact poRet h2 R2 ⟨.cons (dpMono s2 d1) d2.1, congrArg (· + 1) d2.2⟩
structure DfnK (Pg : Program) (w : World) (K : PySem.W.Frag) (mg : Str → Option Value) (base : Heap) (T : List (Addr × Str)) (k : Nat) (x : Str) (ps : List Str) (fm : List Ent → FO) : Prop where
  ex : ∃ (f : Addr) (fd : FuncData), mg x = some (.ref f) ∧ PySem.W.keepIn K (.ref f) = true ∧ (∀ (s : Shared) (us : List Value), us.length = ps.length → BindsTo s fd ⟨[], ps.zip us⟩ (ps.zip us)) ∧ FnG Pg w K mg base k f fd ps (spM T mg ps.length fm)
theorem dfnOkK {Pg : Program} {w : World} {K : PySem.W.Frag} {mg : Str → Option Value} {base : Heap} {x qual : Str} {st : Stmt} {f : Addr} {fd : FuncData} {N ps : List Str} {k : Nat} {P : List Nat} {T : List (Addr × Str)} {body : Rho → Fl} (FF : Fun K x qual st f fd) (S : FnScope N ps (defScope st)) (hle : ps.length ≤ N.length)
    (hmg : mg x = some (.ref f)) (hb : ∀ (s : Shared) (us : List Value), us.length = ps.length → BindsTo s fd ⟨[], ps.zip us⟩ (ps.zip us))
    (hbody : ∀ (cdv : Value) (A : Around) (outer : List Env) (s : Shared) (H : Hp) (E : XK), A.guards = some [] → Room k (A.deeper (PyProof.Rows.envOfC qual (defScope st) s.heap.objs.size f cdv)) →
      DSs (cxOf (L2.CX Pg w) Pg w K mg base N qual (defScope st) f cdv A outer s H E) (fun cls d _ H' => E cls d H') ⟨P, T, fun _ => True⟩ body (defBody st)) : DfnK Pg w K mg base T (k + 1) x ps (fnM body N.length P) :=
  ⟨f, fd, hmg, FF.kp, hb, dfnFn FF S hle hbody⟩
theorem deCallK {X : Cx} {W : WX} {P : Pn} {kws : List Keyword} {ms : Mi (List AEnt)} {fm : List Ent → FO} {k : Nat} {ps : List Str} {x : Str} {p pos : Pos} (D : DfnK X.prog X.w X.K X.mg X.base P.tb k x ps fm) (hG : X.A.guards = some []) (hr : Room k X.A) (tk : Takes X W) (ha : DK X W P ms kws)
    (hg : Gl X x) (hall : (backToKw pos (keywordEach kws X.env)).all (·.1.isSome) = true := by rfl) (hks : (backToKw pos (keywordEach kws X.env)).filterMap (·.1) = ps := by rfl)
    (hn : kws.length = ps.length := by rfl) (hdb : (x == ("__debug__" : Str)) = false := by decide) (hpl : ((backTo pos (starEach [] X.env)).any (·.1) || (backToKw pos (keywordEach kws X.env)).any (·.1.isNone)) = false := by rfl) :
    DE X W P (mCall fm ms) (.Call (.Name x p) [] kws pos) := fun F hF => by
  obtain ⟨f, fd, hm, hk, hb, FN⟩ := D.ex
  constructor
  intro pins s σ H Q I ⟨C, ρ, R, h⟩
  refine wpAny_Call_Name_kw (ld_glob I hg hm ?_ hdb)
  refine PySem.W.callWith_KW0 (h₀ := X.base) I.ok.mod.kin hk hall (thn ((ha F hF).run pos pins s σ H _ I ⟨C, ρ, R, poBind h⟩) fun us s1 ⟨vs, H1, I1, rv, C1, ρ1, as, s1', R1, d1, h1⟩ => ⟨I1.kIn, ?_⟩) hpl
  rw [hks]
  obtain ⟨d1, d2⟩ := d1
  have etb : F.tb = P.tb := hF.2.1
  have sp : spM P.tb X.mg ps.length fm vs H1 Q (WE W σ) := by
    cases e1 : entsOf as ρ1 with
    | none =>
      simp only [e1] at h1
      exact h1.elim
    | some ens =>
      simp only [e1] at h1
      obtain ⟨As, g1, g2⟩ := entsOk R1 d1 e1
      by_cases nd : (hix as).Nodup
      · simp only [if_pos nd] at h1
        refine ⟨(pairLen d1).trans (d2.trans hn), C1, ens, As, R1.ch, by rw [← etb]; exact R1.tabs, R1.tabC, g1, apartAd R1 g2 nd, ?_⟩
        rw [← etb]
        cases ef : fm ens with
        | rt d outs =>
          simp only [ef] at h1
          cases er : rvD d with
          | none =>
            simp only [er] at h1
            exact h1.elim
          | some x =>
            simp only [er] at h1
            exact callBack (W := W) (X := X) R1 nd g2 er h1
        | ex c w outs =>
          simp only [ef] at h1
          exact fun A dd v C' H' hm cx q1 q2 => h1 A dd v C' H' hm cx.cc (R1.call cx nd g2) q1 q2
        | bad =>
          simp only [ef] at h1
          exact h1
      · simp only [if_neg nd] at h1
        exact h1.elim
  have hl : us.length = ps.length := rv.length.symm.trans (FN.len _ _ _ _ sp)
  show wpAny _ _ (call (.ref f) [] (ps.zip us)) _ _ _
  apply wpAny_call
  refine codeAny_mono (FN.run X.A X.stack s1 H1 ⟨[], ps.zip us⟩ us vs Q (WE W σ) hG hr I1.env0 (hb s1 us hl) rv sp) ?_
  intro res s' hres
  match res, hres with
  | .error e, hres => exact passAt tk σ pins H1 s1 e s' I1 hres
  | .ok (.ret u), hres => exact I1.after hres
  | .ok .next, hres => exact False.elim hres
  | .ok .brk, hres => exact False.elim hres
  | .ok .cont, hres => exact False.elim hres
end Dn
set_option maxHeartbeats 4000000
namespace Dn
open PySem PySem.Spec PyProof.Rows L2

/-! ## the law's end, with tables of code objects -/
def noLst (K : PySem.W.Frag) : Bool := K.all fun p => !(p.2.cls == Value.type "list")
theorem noLst_at {K : PySem.W.Frag} {a : Addr} {o : Obj} (h : noLst K = true) (hc : o.cls = .type "list") : K.lookup a ≠ some o := fun e => by
  unfold noLst at h
  induction K with
  | nil => cases e
  | cons p r ih =>
    rw [List.all_cons, Bool.and_eq_true] at h
    obtain ⟨b, u⟩ := p
    rw [List.lookup_cons] at e
    cases q : a == b with
    | true =>
      rw [q] at e
      cases e
      have z := h.1
      dsimp only at z
      rw [hc] at z
      exact absurd z (by decide)
    | false =>
      rw [q] at e
      exact ih h.2 e
abbrev tabObj0 : Obj := { cls := .none, data := .fields #[] }
/-- the script and the tables, and nothing else -/
def lawHp (a : Addr) (o : Obj) (xs : List V) (ts : List Addr) : Hp := fun b => if b = a then some (.frz o (.lst xs)) else if b ∈ ts then some (.tbl #[]) else none
section
variable {a : Addr} {o : Obj} {xs : List V} {ts : List Addr}
theorem lawHp_a : lawHp a o xs ts a = some (.frz o (.lst xs)) := if_pos rfl
theorem lawHp_t {b : Addr} (h : b ∈ ts) (n : b ≠ a) : lawHp a o xs ts b = some (.tbl #[]) := (if_neg n).trans (if_pos h)
theorem lawHp_or {b : Addr} {u : HO} (h : lawHp a o xs ts b = some u) : (b = a ∧ u = .frz o (.lst xs)) ∨ (b ≠ a ∧ b ∈ ts ∧ u = .tbl #[]) := by
  unfold lawHp at h
  split at h
  · rename_i e
    exact .inl ⟨e, (Option.some.inj h).symm⟩
  · rename_i n
    split at h
    · rename_i m
      exact .inr ⟨n, m, (Option.some.inj h).symm⟩
    · cases h
end
theorem lawGT {Pg : Program} {w : World} {K : PySem.W.Frag} {mg mb : Str → Option Value} {k : Nat} {fa a : Addr} {cs : List (Addr × Addr)} {fd : FuncData} {x : Str} {sp : Sp} {sh : Shared} {vs : List Value} {ns : List Int}
    (KX : K.In sh.heap) (hns : sh.heap.Ns mainGlobals mg) (hb : sh.heap.Ns builtinsNs mb) (hbb : ∀ y : Str, y ≠ "__name__" → mb y = bootBuiltins y) (hlim : sh.heap.NoLimit) (hg : sh.gens = #[])
    (hbm : ∃ (bm : Addr) (ob : Obj), mg "__builtins__" = some (.ref bm) ∧ bm ≠ builtinsNs ∧ sh.heap.get? bm = some ob ∧ ob.cls = .type "module" ∧ ob.dict = some builtinsNs ∧ ob.data = .plain)
    (hT : ∀ p ∈ cs, sh.heap.get? p.2 = some tabObj0) (nT : ∀ p ∈ cs, K.lookup p.2 = none) (hC : ∀ p ∈ cs, PySem.W.CodeHd sh.heap p.1 p.2) (hL : noLst K = true)
    (ha : sh.heap.get? a = some { cls := .type "list", data := .seq vs.toArray }) (hi : IntsAre vs ns) (hl : ns.length ≤ sizeLine) (hr : Room k callerA)
    (F : ∀ base : Heap, K.In base → base.Ns mainGlobals mg → (∀ p ∈ cs, LamX.TabB base mg p.1 p.2) → FnG Pg w K mg base k fa fd [x] sp) (hbind : ∀ (s : Shared) (u : Value), BindsTo s fd ⟨[u], []⟩ [(x, u)])
    (hsp : ∀ (o : Obj) (ts : List Addr), ts = cs.map (·.2) → a ∉ ts → sp [.ref a] (lawHp a o (ns.map V.int) ts) (fun v _ => v = .bl true) fun _ _ _ => False) :
    codeAny (model Pg w) callerA (.call (.ref fa) ⟨[.ref a], []⟩) (fun r s' => r = .ok (.ret (.bool true)) ∧ OldK sh.heap s'.heap ∧ s'.os = sh.os ∧ AllBare s'.gens) sh := by
  have rv := vals_ints hi
  have lenV := hi.length
  have tabAt : ∀ b, b ∈ cs.map (·.2) → sh.heap.get? b = some tabObj0 ∧ K.lookup b = none := by
    intro b hb
    obtain ⟨p, hp, e⟩ := List.mem_map.mp hb
    subst e
    exact ⟨hT p hp, nT p hp⟩
  have aT : a ∉ cs.map (·.2) := by
    intro z
    have q := (tabAt a z).1
    rw [ha] at q
    have y : Data.seq vs.toArray _ = Data.fields #[] := congrArg Obj.data (Option.some.inj q)
    cases y
  have nK : K.lookup a = none := by
    cases q : K.lookup a with
    | none => rfl
    | some o =>
      have e := KX a o q
      rw [ha] at e
      cases e
      exact absurd q (noLst_at hL rfl)
  generalize eH : lawHp a { cls := .type "list", data := .seq vs.toArray } (ns.map V.int) (cs.map (·.2)) = H
  have orH : ∀ b u, H b = some u → (b = a ∧ u = .frz { cls := .type "list", data := .seq vs.toArray } (.lst (ns.map V.int))) ∨ (b ≠ a ∧ b ∈ cs.map (·.2) ∧ u = .tbl #[]) := by
    intro b u h
    subst eH
    exact lawHp_or h
  have stay : ∀ {b : Addr} {o : Obj}, sh.heap.get? b = some o → o.cls ≠ .type "list" → o ≠ tabObj0 → (hidT sh.heap H).get? b = some o := by
    intro b o e n1 n2
    apply hidT_get e
    cases q : H b with
    | none => rfl
    | some u =>
      rcases orH b u q with ⟨rfl, _⟩ | ⟨_, m, _⟩
      · rw [ha] at e
        cases e
        exact absurd rfl n1
      · rw [(tabAt b m).1] at e
        cases e
        exact absurd rfl n2
  have dicts : ∀ {b : Addr} {m : Str → Option Value}, sh.heap.Ns b m → (hidT sh.heap H).Ns b m := by
    rintro b m ⟨o, es, ep, e, d, r⟩
    refine ⟨o, es, ep, hidT_get e ?_, d, r⟩
    cases q : H b with
    | none => rfl
    | some u =>
      rcases orH b u q with ⟨rfl, _⟩ | ⟨_, z, _⟩
      · rw [ha] at e
        cases e
        cases d
      · rw [(tabAt b z).1] at e
        cases e
        cases d
  have kin : K.In (hidT sh.heap H) := by
    intro b o e
    apply hidT_get (KX b o e)
    cases q : H b with
    | none => rfl
    | some u =>
      rcases orH b u q with ⟨rfl, _⟩ | ⟨_, z, _⟩
      · rw [nK] at e
        cases e
      · rw [(tabAt b z).2] at e
        cases e
  have md : Mod K mg (hidT sh.heap H) := by
    obtain ⟨mc, l1, l2⟩ := hlim
    exact ⟨kin, dicts hns, ⟨mb, dicts hb, hbb⟩, ⟨mc, dicts l1, l2⟩⟩
  have tb : ∀ p ∈ cs, LamX.TabB (hidT sh.heap H) mg p.1 p.2 := by
    intro p hp
    have atP := hT p hp
    constructor
    · obtain ⟨o, us, file, tf, flags, tg, inF, text, tt, e1, r1, r2, r3, r⟩ := hC p hp
      refine ⟨o, us, file, tf, flags, tg, inF, text, tt, stay e1 (fun z => ?_) (fun z => ?_), r1, r2, r3, r⟩
      · rw [r1] at z
        exact absurd z (by decide)
      · rw [z] at r1
        exact absurd r1 (by decide)
    · obtain ⟨bm, ob, b1, b2, b3, b4, b5, b6⟩ := hbm
      refine ⟨bm, ob, b1, b2, fun z => ?_, fun z => ?_, stay b3 (fun z => ?_) (fun z => ?_), b4, b5, b6⟩
      · obtain ⟨o, es, ep, e, d, _⟩ := hns
        rw [z, e] at b3
        cases b3
        rw [d] at b6
        cases b6
      · rw [z, atP] at b3
        cases b3
        cases b6
      · rw [b4] at z
        exact absurd z (by decide)
      · rw [z] at b6
        cases b6
    · intro z
      obtain ⟨o, es, ep, e, d, _⟩ := hns
      rw [z, atP] at e
      cases e
      cases d
  have ok : HOk Pg w H sh.heap := by
    intro b u q
    rcases orH b u q with ⟨rfl, rfl⟩ | ⟨_, m, rfl⟩
    · exact ⟨ha, by rw [List.length_map]; exact hl, vs, _, rv, ha⟩
    · exact (tabAt b m).1
  have e0 : Env0 Pg w K mg (hidT sh.heap H) callerA [] sh H :=
    { frames := rfl, mod := md, «bs» := fun b o => of_hidT, bsz := Nat.le_of_eq (hidT_size _ _), funs := trivial, frf := fun b hb' => (by cases hb'), hok := ok, bare := .of_eq hg }
  have SP : sp [.ref a] H (fun v _ => v = .bl true) fun _ _ _ => False := by
    rw [← eH]
    exact hsp _ _ rfl aT
  refine codeAny_mono ((F _ kin (dicts hns) tb).run callerA [] sh H ⟨[.ref a], []⟩ [.ref a] [.ref a] _ _ rfl hr e0 (hbind sh (.ref a)) (.cons rfl .nil) SP) ?_
  intro res s' hres
  match res, hres with
  | .error e, hres =>
    obtain ⟨_, _, _, _, _, _, _, _, _, _, _, _, z⟩ := hres
    exact z.elim
  | .ok .next, hres => exact False.elim hres
  | .ok .brk, hres => exact False.elim hres
  | .ok .cont, hres => exact False.elim hres
  | .ok (.ret u), hres =>
    obtain ⟨v, H', os, bare, un, ok', rel, q⟩ := hres
    have ev : v = .bl true := q
    subst ev
    have eu : u = Value.bool true := rel
    subst eu
    have kept : ∀ b o, b ∉ cs.map (·.2) → sh.heap.get? b = some o → s'.heap.get? b = some o := by
      intro b o nb e
      cases q : H b with
      | none => exact un.keep b o e q (fun y => by cases y) (fun y => by cases y)
      | some u =>
        rcases orH b u q with ⟨rfl, rfl⟩ | ⟨_, z, _⟩
        · have z2 := un.frzs b _ _ q
          have e2 := (ok' b _ z2).1
          rw [ha] at e
          cases e
          exact e2
        · exact absurd z nb
    have grew : ∀ b, b ∈ cs.map (·.2) → ∃ more : Array Value, s'.heap.get? b = some { cls := .none, data := .fields more } := by
      intro b hb
      have hne : b ≠ a := fun z => aT (by rw [← z]; exact hb)
      have q : H b = some (.tbl #[]) := by
        rw [← eH]
        exact lawHp_t hb hne
      obtain ⟨more, z⟩ := un.tbls b #[] q
      exact ⟨_, ok' b _ z⟩
    refine ⟨rfl, ⟨fun b o e => ?_, fun b o e => ?_⟩, os, bare⟩
    · by_cases hb : b ∈ cs.map (·.2)
      · obtain ⟨more, hm⟩ := grew b hb
        obtain ⟨p, hp, ep⟩ := List.mem_map.mp hb
        subst ep
        rw [hT p hp] at e
        cases e
        refine .inr (.inl ⟨((hC p hp).tab (hT p hp)).isCodeTable, rfl, #[], more, rfl, ?_⟩)
        rw [Array.empty_append]
        exact hm
      · exact .inl (kept b o hb e)
    · by_cases hb : b ∈ cs.map (·.2)
      · obtain ⟨more, hm⟩ := grew b hb
        exact ⟨_, hm⟩
      · exact ⟨o, kept b o hb e⟩

/-- what is known of the law at the head's heap -/
def LawG (l : PySem.W.OpenLaw) (w : World) (K : PySem.W.Frag) (k n : Nat) (x : Str) (mg : Str → Option Value) (fa : Addr) (h : Heap) : Prop :=
  ∃ (fd : FuncData) (cs : List (Addr × Addr)) (sp : Sp), (∀ p ∈ cs, h.get? p.2 = some tabObj0) ∧ (∀ p ∈ cs, K.lookup p.2 = none) ∧ (∀ p ∈ cs, PySem.W.CodeHd h p.1 p.2) ∧ noLst K = true ∧ (∀ (s : Shared) (u : Value), BindsTo s fd ⟨[u], []⟩ [(x, u)]) ∧
    (∀ (o : Obj) (a : Addr) (ns : List Int) (ts : List Addr), ns.length ≤ n → (∀ z ∈ ns, Builtin.Int.intBits z ≤ 1048576) → ts = cs.map (·.2) → a ∉ ts → sp [.ref a] (lawHp a o (ns.map V.int) ts) (fun v _ => v = .bl true) fun _ _ _ => False) ∧
    ∀ base : Heap, K.In base → base.Ns mainGlobals mg → (∀ p ∈ cs, LamX.TabB base mg p.1 p.2) → FnG l.prog w K mg base k fa fd [x] sp
theorem walkGT {l : PySem.W.OpenLaw} {n k : Nat} {q : Program} {loose : List Str} {XP : (Str → Option Value) → Heap → Prop} {YP : World → Heap → Prop} {d : DefRec} {K : Params → PySem.W.Frag} {x : Str} (names : List Str)
    (hn : l.most = some n) (hn2 : n ≤ sizeLine) (hdf : d.params.defaults = []) (hr : Room k callerA) (hY : ∀ (w : World) (h : Heap), YP w h → (K w.params).In h) (hrec : names.all (fun y => ((recsOf q).find? (fun e => e.name == y)).isSome) = true)
    (F : ∀ (w : World) (mg : Str → Option Value) (fa : Addr) (h : Heap), (K w.params).In h → h.Ns mainGlobals mg → mg d.name = some (.ref fa) → (∀ y ∈ names, ∀ c P, PySem.W.tabIn (K w.params) y = some (c, P) → PySem.W.CodeHd h c P ∧ h.get? P = some tabObj0) → LawG l w (K w.params) k n x mg fa h) :
    PySem.W.WalkO q loose XP YP l.row.toRowW d [] (fun f vs => PySem.call f vs) := by
  apply Att.attach_callB hn hdf
  intro w s0 sh mg mb fa o pm cd doc a vs ns G Y _ _ _ hmg hobj hints hlen hbits hgn
  have KX := hY w _ Y
  obtain ⟨fd, cs, sp, hT, nT, hC, hL, hb, hsp, hF⟩ := F w mg fa _ KX G.T.g hmg fun y hy c P e => by
    obtain ⟨dr, hd⟩ := Option.isSome_iff_exists.mp (List.all_eq_true.mp hrec y hy)
    exact PySem.W.tab_of G.T KX hd e
  exact lawGT KX G.T.g G.T.b G.T.builtins G.T.nolimit hgn G.T.bmain hT nT hC hL hobj hints (Nat.le_trans hlen hn2) hr hF hb (fun o ts e hn => hsp o a ns ts hlen hbits e hn)
def intsD (ns : List Int) : PyData := .list (ns.map PyData.int)
theorem dpaInts {K : PySem.W.Frag} {C : Hp} : ∀ ns : List Int, DpAll K C (ns.map V.int) (ns.map PyData.int)
  | [] => .nil
  | n :: r => .cons (.int n) (dpaInts r)
theorem spLawG {mg : Str → Option Value} {fm : List Ent → FO} {T : List (Addr × Str)} {o : Obj} {a : Addr} {ns : List Int} {ts : List Addr} (hT : ∀ p ∈ T, p.1 ∈ ts) (ha : a ∉ ts) (h : fm [.val (intsD ns)] = .rt (.cold (.bool true)) []) :
    spM T mg 1 fm [.ref a] (lawHp a o (ns.map V.int) ts) (fun v _ => v = .bl true) fun _ _ _ => False := by
  have c0 : ∀ b u, (fun b => if b = a then some (HO.frz o (.lst (ns.map V.int))) else none : Hp) b = some u → b = a ∧ u = .frz o (.lst (ns.map V.int)) := by
    intro b u z
    by_cases hb : b = a
    · have z' := (if_pos hb).symm.trans z
      exact ⟨hb, (Option.some.inj z').symm⟩
    · have z' := (if_neg hb).symm.trans z
      cases z'
  refine ⟨rfl, fun b => if b = a then some (.frz o (.lst (ns.map V.int))) else none, [.val (intsD ns)], [], fun b u z => ?_, fun p hp => LamX.TabS.nil (lawHp_t (hT p hp) (fun z => ha (by rw [← z]; exact hT p hp))), ?_, .val (.lst (.inl (.inr ⟨o, if_pos rfl⟩)) (dpaInts ns)) .nil, fun k k' A A' b h1 => by simp at h1, ?_⟩
  · obtain ⟨rfl, rfl⟩ := c0 b u z
    exact lawHp_a
  · refine ⟨fun b ps z => ?_, fun b xs z => ?_, fun b o xs z => ?_⟩
    · obtain ⟨_, e⟩ := c0 b _ z
      cases e
    · obtain ⟨_, e⟩ := c0 b _ z
      cases e
    · obtain ⟨_, e⟩ := c0 b _ z
      cases e
  · rw [h]
    intro v C' H' _ dv
    cases dv
    rfl
end Dn
set_option maxHeartbeats 4000000
namespace Dn
open PySem PySem.Spec PyProof.Rows L2

/-! ## defs whose code object is known -/
section
variable {Pg : Program} {w : World} {K : PySem.W.Frag} {mg : Str → Option Value} {base : Heap}
/-- where a def stands -/
structure At (K : PySem.W.Frag) (mg : Str → Option Value) (x : Str) (st : Stmt) (ps : List Str) (f : Addr) (cdv : Value) : Prop where
  hm : mg x = some (.ref f)
  kp : PySem.W.keepIn K (.ref f) = true
  cd : PySem.W.codeIn K cdv x = true
  ex : ∃ (oc kV doc pm ct : Value) (an od : Option Addr) (osl : Array (Option Value)), K.lookup f = some ⟨oc, od, .func (PySem.W.fnOf x x (defArgs st) (defBody st) (defScope st) .none kV doc pm an cdv ct), osl⟩ ∧
    L2.Binds K (PySem.W.fnOf x x (defArgs st) (defBody st) (defScope st) .none kV doc pm an cdv ct) ps [] ∧ (∀ (s : Shared) (us : List Value), us.length = ps.length → BindsTo s (PySem.W.fnOf x x (defArgs st) (defBody st) (defScope st) .none kV doc pm an cdv ct) ⟨[], ps.zip us⟩ (ps.zip us))
theorem dfnC {x : Str} {st : Stmt} {f : Addr} {cdv : Value} {N ps : List Str} {k : Nat} {P : List Nat} {T : List (Addr × Str)} {body : Rho → Fl} (D : At K mg x st ps f cdv) (S : FnScope N ps (defScope st)) (hle : ps.length ≤ N.length)
    (hbody : ∀ (A : Around) (outer : List Env) (s : Shared) (H : Hp) (E : XK), A.guards = some [] → Room k (A.deeper (PyProof.Rows.envOfC x (defScope st) s.heap.objs.size f cdv)) →
      DSs (cxOf (L2.CX Pg w) Pg w K mg base N x (defScope st) f cdv A outer s H E) (fun cls d _ H' => E cls d H') ⟨P, T, fun _ => True⟩ body (defBody st)) :
    mg x = some (.ref f) ∧ Dfn Pg w K mg base T (k + 1) x ps.length (fnM body N.length P) ∧ DfnK Pg w K mg base T (k + 1) x ps (fnM body N.length P) ∧ ∀ fd oc od osl, K.lookup f = some ⟨oc, od, .func fd, osl⟩ → FnG Pg w K mg base (k + 1) f fd ps (spM T mg ps.length (fnM body N.length P)) := by
  obtain ⟨oc, kV, doc, pm, ct, an, od, osl, lk, hb, hk⟩ := D.ex
  have FN : FnG Pg w K mg base (k + 1) f (PySem.W.fnOf x x (defArgs st) (defBody st) (defScope st) .none kV doc pm an cdv ct) ps (spM T mg ps.length (fnM body N.length P)) :=
    ⟨fun vs H Q E h => h.1, fun A outer s H args us vs Q E hG hr e0 hbb rv hsp => LamX.run_ofS lk D.cd S hr e0 hbb rv hsp.1 fun hr' => coreFn hle (hbody A outer s H E hG hr') hsp⟩
  exact ⟨D.hm, ⟨f, _, ps, D.hm, D.kp, hb, FN⟩, ⟨f, _, D.hm, D.kp, hk, FN⟩, fun fd oc2 od2 osl2 lk2 => by
    rw [lk] at lk2
    cases lk2
    exact FN⟩
theorem dfnTC {x a : Str} {st : Stmt} {g : Addr} {cdv : Value} {N ps : List Str} {k : Nat} {T : List (Addr × Str)} {body : Out PyData → Rho → Fl} (D : At K mg x st (a :: ps) g cdv) (S : FnScope N (a :: ps) (defScope st)) (hN : N[0]? = some a) (hv : Vis (defScope st) a) (hle : ps.length + 1 ≤ N.length)
    (hd : (a == ("__debug__" : Str)) = false) (hc : (a == ("__classdict__" : Str)) = false)
    (hbody : ∀ (th : Out PyData) (ok : Fr0 → Prop) (A : Around) (outer : List Env) (s : Shared) (H : Hp) (E : XK), A.guards = some [] → Room k (A.deeper (PyProof.Rows.envOfC x (defScope st) s.heap.objs.size g cdv)) →
      Thunk (cxOf (L2.CX Pg w) Pg w K mg base N x (defScope st) g cdv A outer s H E) ok T a th →
      DSs (cxOf (L2.CX Pg w) Pg w K mg base N x (defScope st) g cdv A outer s H E) (fun cls d _ H' => E cls d H') ⟨[0], T, ok⟩ (body th) (defBody st)) : DfnT Pg w K mg base T k x ps.length (fnT body N.length) := by
  obtain ⟨oc, kV, doc, pm, ct, an, od, osl, lk, hb, hk⟩ := D.ex
  exact ⟨g, oc, .none, kV, doc, pm, cdv, ct, an, od, osl, st, a, ps, N, body, D.hm, D.kp, lk, D.cd, hb, S, hN, hv, hd, hc, rfl, hle, rfl, hbody⟩
end

abbrev Good (Pg : Program) (w : World) (K : PySem.W.Frag) (mg : Str → Option Value) (base : Heap) (T : List (Addr × Str)) (k : Nat) (x : Str) (ps : List Str) (fm : List Ent → FO) : Prop :=
  Dfn Pg w K mg base T k x ps.length fm ∧ DfnK Pg w K mg base T k x ps fm ∧ ∀ f, mg x = some (.ref f) → ∀ fd oc od osl, K.lookup f = some ⟨oc, od, .func fd, osl⟩ → FnG Pg w K mg base k f fd ps (spM T mg ps.length fm)
theorem goodOf {Pg : Program} {w : World} {K : PySem.W.Frag} {mg : Str → Option Value} {base : Heap} {T : List (Addr × Str)} {k : Nat} {x : Str} {ps : List Str} {fm : List Ent → FO} {f : Addr}
    (h : mg x = some (.ref f) ∧ Dfn Pg w K mg base T k x ps.length fm ∧ DfnK Pg w K mg base T k x ps fm ∧ ∀ fd oc od osl, K.lookup f = some ⟨oc, od, .func fd, osl⟩ → FnG Pg w K mg base k f fd ps (spM T mg ps.length fm)) : Good Pg w K mg base T k x ps fm := by
  obtain ⟨h0, h1, h2, h3⟩ := h
  refine ⟨h1, h2, fun f' e fd oc od osl lk => ?_⟩
  rw [h0] at e
  cases e
  exact h3 fd oc od osl lk
def lamQ (x : Str) : Str := x ++ ".<locals>." ++ "<lambda>"
theorem _root_.L2.Room.u64 {k : Nat} {A : Around} (r : Room k A) : A.units + 64 < cLine := r.units
theorem _root_.L2.Room.u65 {k : Nat} {A : Around} (r : Room k A) : A.units + 65 < cLine := by have := r.un; omega
theorem _root_.L2.Room.u80 {k : Nat} {A : Around} (r : Room k A) : A.units + 80 < cLine := by have := r.un; omega
def mNeg (m : Mi PyData) : Mi PyData := m.bind fun d => match d with
  | .int i => Mi.ret (.int (-i))
  | _ => fun _ => .bad
theorem deNeg {X : Cx} {W : WX} {P : Pn} {a : Expr} {ma : Mi PyData} {pos : Pos} (ha : DE X W P ma a) : DE X W P (mNeg ma) (.UnaryOp .USub a pos) := fun F hF =>
  peImp (pe_un un_neg (ha F hF)) fun σ H Q ⟨C, ρ, R, h⟩ => ⟨C, ρ, R, (poBind h).imp fun x H1 ⟨C1, ρ1, d, s1, R1, d1, h1⟩ => by
    cases d1 with
    | int i => exact ⟨i, rfl, poRet h1 R1 (.int _)⟩
    | _ => exact h1.elim⟩

theorem nin {i : Nat} {ps : List Nat} (h : ps.contains i = false) : i ∉ ps := fun z => by
  have q := List.contains_iff_mem.mpr z
  rw [h] at q
  cases q
theorem nins {vs ps : List Nat} (h : (vs.all fun v => !ps.contains v) = true) : ∀ v ∈ vs, v ∉ ps := fun v hv => nin (by
  have q := List.all_eq_true.mp h v hv
  simpa using q)
/-- a < b < c as a test -/
def mTChain (f g : PyData → PyData → Option Bool) (ma mb mc : Mi PyData) : Mi Bool := ma.bind fun a => mb.bind fun b => (Mi.opt (f a b)).bind fun k => if k then mc.bind fun c => Mi.opt (g b c) else Mi.ret false
theorem dtChain {X : Cx} {W : WX} {P : Pn} {a b c : Expr} {ma mb mc : Mi PyData} {op op' : CmpOp} {f g : PyData → PyData → Option Bool} {pos : Pos} (ho : OpR X (compareOp op) (rD (fB f))) (ho' : OpR X (compareOp op') (rD (fB g))) (ha : DE X W P ma a) (hb : DE X W P mb b) (hc : DE X W P mc c)
    (hm : lastMarks [op, op'] [b, c] = false := by with_unfolding_all rfl) : DT X W P (mTChain f g ma mb mc) (.Compare a [op, op'] [b, c] pos) :=
  fun F hF => ptImp (pt_chain ho ho' (ha F hF) (hb F hF) (hc F hF) hm) fun σ H Q ⟨C, ρ, R, h⟩ => by
    refine ⟨C, ρ, R, (poBind h).imp fun x H1 ⟨C1, ρ1, a, s1, R1, d1, h1⟩ => ⟨C1, ρ1, R1, (poBind h1).imp fun y H2 ⟨C2, ρ2, b, s2, R2, d2, h2⟩ => ?_⟩⟩
    cases e : f a b with
    | none =>
      simp only [e, Mi.opt, Mi.bind] at h2
      exact h2.elim
    | some k =>
      simp only [e, Mi.opt, Mi.bind] at h2
      refine ⟨C2, a, b, .bool k, by simp [fB, e], R2.ch, dpMono s2 d1, d2, fun v C3 H3 ex dv => ?_⟩
      cases dv
      have R3 := R2.grow ex
      refine ⟨k, rfl, ?_⟩
      cases k with
      | false =>
        simp only [Bool.false_eq_true, if_false] at h2
        exact iteF ⟨_, rfl, h2 _ C3 H3 ex.cc R3 rfl⟩
      | true =>
        simp only [if_true] at h2
        refine iteT ⟨C3, ρ2, R3, (poBind (h2.mono ex.cc)).imp fun z H4 ⟨C4, ρ4, c, s4, R4, d4, h4⟩ => ?_⟩
        cases e2 : g b c with
        | none =>
          simp only [e2, Mi.opt] at h4
          exact h4.elim
        | some k2 =>
          simp only [e2, Mi.opt] at h4
          refine ⟨C4, b, c, .bool k2, by simp [fB, e2], R4.ch, dpMono s4 (dpMono ex.cc d2), d4, fun v C' H' ex dv => ?_⟩
          cases dv
          exact ⟨k2, rfl, h4 k2 C' H' ex.cc (R4.grow ex) rfl⟩
end Dn
set_option maxHeartbeats 4000000
namespace Dn
open PySem PySem.Spec L2
/-! ## the mirrors, worked out -/
section
variable {α β : Type}
@[simp] theorem e_ret (a : α) (r : Rho) : Mi.ret a r = .ok a r := rfl
@[simp] theorem e_bind (m : Mi α) (f : α → Mi β) (r : Rho) : Mi.bind m f r = match m r with
  | .ok a r' => f a r'
  | .ex c w r' => .ex c w r'
  | .bad => .bad := rfl
@[simp] theorem e_some (a : α) (r : Rho) : Mi.opt (some a) r = .ok a r := rfl
@[simp] theorem e_none (r : Rho) : (Mi.opt (none : Option α)) r = .bad := rfl
@[simp] theorem e_sBind (m : Mi α) (k : α → Rho → Fl) (r : Rho) : sBind m k r = match m r with
  | .ok a r' => k a r'
  | .ex c w r' => .ex c w r'
  | .bad => .bad := rfl
@[simp] theorem e_sSeq (s u : Rho → Fl) (r : Rho) : sSeq s u r = match s r with
  | .nx r' => u r'
  | .rt d r' => .rt d r'
  | .bk r' => .bk r'
  | .ct r' => .ct r'
  | .ex c w r' => .ex c w r'
  | .bad => .bad := rfl
@[simp] theorem e_var (i : Nat) (r : Rho) : mVar i r = match r[i]? with
  | some (some (.val d)) => .ok d r
  | some (some (.hot xs)) => .ok (.list xs) (r.set i (some (.val (.list xs))))
  | _ => .bad := rfl
@[simp] theorem e_bin (f : PyData → PyData → Option PyData) (ma mb : Mi PyData) (r9 : Rho) : mBin f ma mb r9 = (ma.bind fun a => mb.bind fun b => Mi.opt (f a b)) r9 := rfl
@[simp] theorem e_tst (f : PyData → PyData → Option Bool) (ma mb : Mi PyData) (r9 : Rho) : mTst f ma mb r9 = (ma.bind fun a => mb.bind fun b => Mi.opt (f a b)) r9 := rfl
@[simp] theorem e_fB (f : PyData → PyData → Option Bool) (a b : PyData) : fB f a b = (f a b).map PyData.bool := rfl
@[simp] theorem e_tru (m : Mi PyData) (r9 : Rho) : mTru m r9 = (m.bind fun d => Mi.opt (truth d)) r9 := rfl
@[simp] theorem e_and (ma mb : Mi PyData) (r9 : Rho) : mAnd ma mb r9 = (ma.bind fun a => (Mi.opt (truth a)).bind fun k => if k then mb else Mi.ret a) r9 := rfl
@[simp] theorem e_or (ma mb : Mi PyData) (r9 : Rho) : mOr ma mb r9 = (ma.bind fun a => (Mi.opt (truth a)).bind fun k => if k then Mi.ret a else mb) r9 := rfl
@[simp] theorem e_not (ma : Mi PyData) (r9 : Rho) : mNot ma r9 = (ma.bind fun a => (Mi.opt (truth a)).bind fun k => Mi.ret (.bool (!k))) r9 := rfl
@[simp] theorem e_tand (ma mb : Mi Bool) (r9 : Rho) : tAndM ma mb r9 = (ma.bind fun k => if k then mb else Mi.ret false) r9 := rfl
@[simp] theorem e_tor (ma mb : Mi Bool) (r9 : Rho) : tOrM ma mb r9 = (ma.bind fun k => if k then Mi.ret true else mb) r9 := rfl
@[simp] theorem e_tnot (ma : Mi Bool) (r9 : Rho) : tNotM ma r9 = (ma.bind fun k => Mi.ret (!k)) r9 := rfl
@[simp] theorem e_if (t : Mi Bool) (ma mb : Mi PyData) (r9 : Rho) : mIf t ma mb r9 = (t.bind fun k => if k then ma else mb) r9 := rfl
@[simp] theorem e_isN (ma : Mi PyData) (r9 : Rho) : mIsN ma r9 = (ma.bind fun a => Mi.ret (.bool (isNone a))) r9 := rfl
@[simp] theorem e_notN (ma : Mi PyData) (r9 : Rho) : mNotN ma r9 = (ma.bind fun a => Mi.ret (.bool (!isNone a))) r9 := rfl
@[simp] theorem e_tisN (ma : Mi PyData) (r9 : Rho) : tIsNM ma r9 = (ma.bind fun a => Mi.ret (isNone a)) r9 := rfl
@[simp] theorem e_tnotN (ma : Mi PyData) (r9 : Rho) : tNotNM ma r9 = (ma.bind fun a => Mi.ret (!isNone a)) r9 := rfl
@[simp] theorem e_nil (r9 : Rho) : mNil r9 = (Mi.ret []) r9 := rfl
@[simp] theorem e_cons (m : Mi PyData) (ms : Mi (List PyData)) (r9 : Rho) : mCons m ms r9 = (m.bind fun d => ms.bind fun ds => Mi.ret (d :: ds)) r9 := rfl
@[simp] theorem e_tup (ms : Mi (List PyData)) (r9 : Rho) : mTup ms r9 = (ms.bind fun ds => Mi.ret (.tuple ds)) r9 := rfl
@[simp] theorem e_lst (ms : Mi (List PyData)) (r9 : Rho) : mLst ms r9 = (ms.bind fun ds => Mi.ret (.list ds)) r9 := rfl
@[simp] theorem e_blt (f : List PyData → Option PyData) (ms : Mi (List PyData)) (r9 : Rho) : mBlt f ms r9 = (ms.bind fun ds => Mi.opt (f ds)) r9 := rfl
@[simp] theorem e_expr (m : Mi PyData) (r9 : Rho) : sExpr m r9 = (sBind m fun _ r => .nx r) r9 := rfl
@[simp] theorem e_sret (m : Mi PyData) (r9 : Rho) : sRet m r9 = (sBind m fun d r => .rt (.cold d) r) r9 := rfl
@[simp] theorem e_sretF (m : Mi (List PyData)) (r9 : Rho) : sRetF m r9 = (sBind m fun d r => .rt (.fresh d) r) r9 := rfl
@[simp] theorem e_sif (t : Mi Bool) (s u : Rho → Fl) (r9 : Rho) : sIf t s u r9 = (sBind t fun k r => if k then s r else u r) r9 := rfl
@[simp] theorem e_set (i : Nat) (m : Mi PyData) (r9 : Rho) : sSet i m r9 = (sBind m fun d r => .nx (r.set i (some (.val d)))) r9 := rfl
@[simp] theorem e_seth (i : Nat) (m : Mi (List PyData)) (r9 : Rho) : sSetHot i m r9 = (sBind m fun d r => .nx (r.set i (some (.hot d)))) r9 := rfl
@[simp] theorem e_ofF (m : Mi (List PyData)) (r9 : Rho) : mOfF m r9 = (m.bind fun ds => Mi.ret (.list ds)) r9 := rfl
@[simp] theorem e_hot (r : Rho) (i : Nat) : hotOf r i = match r[i]? with
  | some (some (.hot xs)) => some xs
  | _ => none := rfl
@[simp] theorem e_gnm (i : Nat) (d : PyData) (r : Rho) : gNm i d r = some (r.set i (some (.val d))) := rfl
@[simp] theorem e_asg (g : PyData → Rho → Option Rho) (m : Mi PyData) (r9 : Rho) : sAsg g m r9 = (sBind m fun d r => match g d r with
  | some r' => .nx r'
  | none => .bad) r9 := rfl
@[simp] theorem e_iter (m : Mi PyData) (r9 : Rho) : mIter m r9 = (m.bind fun d => Mi.opt (items d)) r9 := rfl
@[simp] theorem e_rng (f : List PyData → Option (List PyData)) (ms : Mi (List PyData)) (r9 : Rho) : mRng f ms r9 = (ms.bind fun ds => Mi.opt (f ds)) r9 := rfl
@[simp] theorem e_for (m : Mi (List PyData)) (g : PyData → Rho → Option Rho) (b : Rho → Fl) (r9 : Rho) : sFor m g b r9 = (sBind m (forL g b)) r9 := rfl
@[simp] theorem e_anil (r9 : Rho) : aNil r9 = (Mi.ret []) r9 := rfl
@[simp] theorem e_aval (m : Mi PyData) (ms : Mi (List AEnt)) (r9 : Rho) : aVal m ms r9 = (m.bind fun d => ms.bind fun as => Mi.ret (.d d :: as)) r9 := rfl
@[simp] theorem e_ahot (i : Nat) (ms : Mi (List AEnt)) (r : Rho) : aHot i ms r = match hotE r i with
  | some _ => (ms.bind fun as => Mi.ret (.h i :: as)) r
  | none => .bad := rfl
@[simp] theorem e_ents0 (r : Rho) : entsOf [] r = some [] := rfl
@[simp] theorem e_entsd (x : PyData) (as : List AEnt) (r : Rho) : entsOf (.d x :: as) r = (entsOf as r).map (Ent.val x :: ·) := rfl
@[simp] theorem e_entsh (i : Nat) (as : List AEnt) (r : Rho) : entsOf (.h i :: as) r = match hotE r i with
  | some e => (entsOf as r).map (e :: ·)
  | none => none := rfl
@[simp] theorem e_hotE (r : Rho) (i : Nat) : hotE r i = match r[i]? with
  | some (some e) => if e.isHot then some e else none
  | _ => none := rfl
@[simp] theorem e_ih0 (d : PyData) : (Ent.val d).isHot = false := rfl
@[simp] theorem e_ih1 (d : List PyData) : (Ent.hot d).isHot = true := rfl
@[simp] theorem e_ih2 (d : List (PyData × PyData)) : (Ent.hotD d).isHot = true := rfl
@[simp] theorem e_ih3 (d : List (List PyData)) : (Ent.hotLL d).isHot = true := rfl
@[simp] theorem e_ih4 (d : List (PyData × List PyData)) : (Ent.hotDL d).isHot = true := rfl
@[simp] theorem e_rvc (d : PyData) : rvD (.cold d) = some d := rfl
@[simp] theorem e_rvf (d : List PyData) : rvD (.fresh d) = some (.list d) := rfl
@[simp] theorem e_rvl (d : List (List PyData)) : rvD (.tree (.hotLL d)) = some (.list (d.map .list)) := rfl
@[simp] theorem e_hix0 : hix [] = [] := rfl
@[simp] theorem e_hixd (x : PyData) (as : List AEnt) : hix (.d x :: as) = hix as := rfl
@[simp] theorem e_hixh (i : Nat) (as : List AEnt) : hix (.h i :: as) = i :: hix as := rfl
@[simp] theorem e_call (fm : List Ent → FO) (ms : Mi (List AEnt)) (r0 : Rho) : mCall fm ms r0 = match ms r0 with
  | .ok as r => (match entsOf as r with
    | none => .bad
    | some es => if (hix as).Nodup then (match fm es with
        | .rt d outs => (match rvD d with
          | some x => .ok x (upHot r (hix as) outs)
          | none => .bad)
        | .ex c w outs => .ex c w (upHot r (hix as) outs)
        | .bad => .bad) else .bad)
  | .ex c w r => .ex c w r
  | .bad => .bad := by
  unfold mCall Mi.bind
  cases ms r0 <;> rfl
@[simp] theorem e_callF (fm : List Ent → FO) (ms : Mi (List AEnt)) (r0 : Rho) : mCallF fm ms r0 = match ms r0 with
  | .ok as r => (match entsOf as r with
    | none => .bad
    | some es => if (hix as).Nodup then (match fm es with
        | .rt (.fresh ds) outs => .ok ds (upHot r (hix as) outs)
        | .rt _ _ => .bad
        | .ex c w outs => .ex c w (upHot r (hix as) outs)
        | .bad => .bad) else .bad)
  | .ex c w r => .ex c w r
  | .bad => .bad := by
  unfold mCallF Mi.bind
  cases ms r0 <;> rfl
@[simp] theorem e_up0 (r : Rho) (xs : List Ent) : upHot r [] xs = r := rfl
@[simp] theorem e_up1 (r : Rho) (i : Nat) (is : List Nat) (e : Ent) (es : List Ent) : upHot r (i :: is) (e :: es) = upHot (r.set i (some e)) is es := rfl
@[simp] theorem e_fnM (body : Rho → Fl) (n : Nat) (P : List Nat) (es : List Ent) : fnM body n P es = if hotIdx 0 es = P then (match body (rho0 n es) with
  | .nx r => .rt (.cold .none) (outsOf r P)
  | .rt d r => .rt d (outsOf r P)
  | .ex c w r => .ex c w (outsOf r P)
  | _ => .bad) else .bad := rfl
@[simp] theorem e_hi0 (k : Nat) : hotIdx k [] = [] := rfl
@[simp] theorem e_hiv (k : Nat) (d : PyData) (es : List Ent) : hotIdx k (.val d :: es) = hotIdx (k + 1) es := rfl
@[simp] theorem e_hih (k : Nat) (d : List PyData) (es : List Ent) : hotIdx k (.hot d :: es) = k :: hotIdx (k + 1) es := rfl
@[simp] theorem e_hihD (k : Nat) (d : List (PyData × PyData)) (es : List Ent) : hotIdx k (.hotD d :: es) = k :: hotIdx (k + 1) es := rfl
@[simp] theorem e_hihL (k : Nat) (d : List (List PyData)) (es : List Ent) : hotIdx k (.hotLL d :: es) = k :: hotIdx (k + 1) es := rfl
@[simp] theorem e_hihM (k : Nat) (d : List (PyData × List PyData)) (es : List Ent) : hotIdx k (.hotDL d :: es) = k :: hotIdx (k + 1) es := rfl
@[simp] theorem e_rho0 (n : Nat) (es : List Ent) : rho0 n es = es.map some ++ List.replicate (n - es.length) none := rfl
@[simp] theorem e_outs0 (r : Rho) : outsOf r [] = [] := rfl
@[simp] theorem e_outs1 (r : Rho) (i : Nat) (is : List Nat) : outsOf r (i :: is) = (hotE r i).getD (.val .none) :: outsOf r is := rfl
@[simp] theorem e_chain (f g : PyData → PyData → Option Bool) (ma mb mc : Mi PyData) (r9 : Rho) : mChain f g ma mb mc r9 = (ma.bind fun a => mb.bind fun b => (Mi.opt (f a b)).bind fun k => if k then mc.bind fun c => Mi.opt (fB g b c) else Mi.ret (.bool false)) r9 := rfl
@[simp] theorem e_tchain (f g : PyData → PyData → Option Bool) (ma mb mc : Mi PyData) (r9 : Rho) : mTChain f g ma mb mc r9 = (ma.bind fun a => mb.bind fun b => (Mi.opt (f a b)).bind fun k => if k then mc.bind fun c => Mi.opt (g b c) else Mi.ret false) r9 := rfl
@[simp] theorem e_isi (T : String) (m : Mi PyData) (r9 : Rho) : mIsi T m r9 = (m.bind fun d => Mi.opt ((isTy T d).map PyData.bool)) r9 := rfl
@[simp] theorem e_lenV (i : Nat) (r : Rho) : mLenV i r = match hotOf r i with
  | some xs => .ok (.int (xs.length : Nat)) r
  | none => match r[i]? with
    | some (some (.val d)) => Mi.opt (bLen [d]) r
    | _ => .bad := rfl
@[simp] theorem e_ixV (i : Nat) (mi : Mi PyData) (r : Rho) : mIxV i mi r = match hotOf r i with
  | some _ => (mi.bind fun k r' => match hotOf r' i with
    | some xs => match fIx (.list xs) k with
      | some d => .ok d r'
      | none => .bad
    | none => .bad) r
  | none => match r[i]? with
    | some (some (.val d)) => (mi.bind fun k => Mi.opt (fIx d k)) r
    | _ => .bad := rfl
@[simp] theorem e_raise (c : Str) (m : Mi PyData) (r9 : Rho) : sRaise c m r9 = (sBind m fun d r => .ex c d r) r9 := rfl
@[simp] theorem e_neg (m : Mi PyData) (r9 : Rho) : mNeg m r9 = (m.bind fun d => match d with
  | .int i => Mi.ret (.int (-i))
  | _ => fun _ => .bad) r9 := rfl
@[simp] theorem e_store (i : Nat) (mi ma : Mi PyData) (r9 : Rho) : sStore i mi ma r9 = (sBind ma fun d r => match hotOf r i with
  | none => .bad
  | some _ => sBind mi (fun k r' => match hotOf r' i, k with
    | some xs, .int n => match ixN xs.length n with
      | some j => .nx (r'.set i (some (.hot (xs.set j d))))
      | none => .bad
    | _, _ => .bad) r) r9 := rfl
theorem e_app (i : Nat) (m : Mi PyData) (r : Rho) : sApp i m r = match hotOf r i with
  | some _ => sBind m (fun d r' => match hotOf r' i with
    | some xs => if xs.length < 16777216 then .nx (r'.set i (some (.hot (xs ++ [d])))) else .bad
    | none => .bad) r
  | none => .bad := rfl
@[simp] theorem e_par (i j : Nat) (ms : Mi (List PyData)) (r9 : Rho) : sPar i j ms r9 = (sBind ms fun ds r => match ds with
  | [d, e] => .nx ((r.set i (some (.val d))).set j (some (.val e)))
  | _ => .bad) r9 := rfl
@[simp] theorem e_parH (i j : Nat) (ma : Mi PyData) (mb : Mi (List PyData)) (r9 : Rho) : sParH i j ma mb r9 = (sBind ma fun d => sBind mb fun xs r => .nx ((r.set i (some (.val d))).set j (some (.hot xs)))) r9 := rfl
@[simp] theorem e_tupRg (m : Mi PyData) (r9 : Rho) : mTupRg m r9 = (m.bind fun d => Mi.opt ((fRg d).map PyData.tuple)) r9 := rfl
@[simp] theorem e_lstRg (m : Mi PyData) (r9 : Rho) : mLstRg m r9 = (m.bind fun d => Mi.opt ((fRg d).map PyData.list)) r9 := rfl
@[simp] theorem e_cut (ma : Mi PyData) (ml mh : Mi (Option Int)) (r9 : Rho) : mCut ma ml mh r9 = (ma.bind fun d => ml.bind fun lo => mh.bind fun hi => Mi.opt (fCut lo hi d)) r9 := rfl
@[simp] theorem e_part (m : Mi PyData) (r9 : Rho) : mPart m r9 = (m.bind fun d => match d with
  | .int i => Mi.ret (some i)
  | _ => fun _ => .bad) r9 := rfl
@[simp] theorem e_enum (m : Mi PyData) (r9 : Rho) : mEnum m r9 = (m.bind fun d => Mi.opt ((items d).map (enumD 0))) r9 := rfl
theorem e_comp (mi : Mi (List PyData)) (g : PyData → Rho → Option Rho) (t : Mi Bool) (m : Mi PyData) (vs : List Nat) : mComp mi g t m vs = mi.bind fun ds r1 => match compL g t m vs ds [] r1 with
  | .ok acc r2 => .ok acc (restR r2 r1 vs)
  | _ => .bad := rfl
@[simp] theorem e_rest0 (r r0 : Rho) : restR r r0 [] = r := rfl
@[simp] theorem e_rest1 (r r0 : Rho) (v : Nat) (vs : List Nat) : restR r r0 (v :: vs) = (restR r r0 vs).set v (match r0[v]? with
     | some (some (.val d)) => some (.val d)
     | _ => none) := rfl
@[simp] theorem e_mIsE (o : Option Bool) (r9 : Rho) : mIsE o r9 = (Mi.opt (o.map PyData.bool)) r9 := rfl

@[simp] theorem e_truB (b : Bool) : truth (.bool b) = some b := rfl
@[simp] theorem e_truN : truth .none = some false := rfl
@[simp] theorem e_truT (xs : List PyData) : truth (.tuple xs) = some (!xs.isEmpty) := rfl
@[simp] theorem e_truL (xs : List PyData) : truth (.list xs) = some (!xs.isEmpty) := rfl
@[simp] theorem e_isNt (xs : List PyData) : isNone (.tuple xs) = false := rfl
@[simp] theorem e_isNn : isNone .none = true := rfl
@[simp] theorem e_le (i j : Int) : cLe (.int i) (.int j) = some (decide (i ≤ j)) := rfl
@[simp] theorem e_lt (i j : Int) : cLt (.int i) (.int j) = some (decide (i < j)) := rfl
@[simp] theorem e_gt (i j : Int) : cGt (.int i) (.int j) = some (decide (j < i)) := rfl
@[simp] theorem e_ge (i j : Int) : cGe (.int i) (.int j) = some (decide (j ≤ i)) := rfl
@[simp] theorem e_tyii (i : Int) : isTy "int" (.int i) = some true := rfl
@[simp] theorem e_tyit (i : Int) : isTy "tuple" (.int i) = some false := by
  show kitB "int" "tuple" = some false
  decide +kernel
@[simp] theorem e_tytt (xs : List PyData) : isTy "tuple" (.tuple xs) = some true := rfl
@[simp] theorem e_tynt : isTy "tuple" .none = some false := by decide +kernel
@[simp] theorem e_tyst (x : Str) : isTy "tuple" (.str x) = some false := by
  show kitB "str" "tuple" = some false
  decide +kernel
@[simp] theorem e_lenL (xs : List PyData) : bLen [.list xs] = some (.int (xs.length : Nat)) := rfl
@[simp] theorem e_lenT (xs : List PyData) : bLen [.tuple xs] = some (.int (xs.length : Nat)) := rfl
@[simp] theorem e_itL (xs : List PyData) : items (.list xs) = some xs := rfl
@[simp] theorem e_itT (xs : List PyData) : items (.tuple xs) = some xs := rfl
@[simp] theorem e_for0 (g : PyData → Rho → Option Rho) (b : Rho → Fl) (r : Rho) : forL g b [] r = .nx r := rfl
theorem e_forc (g : PyData → Rho → Option Rho) (b : Rho → Fl) (d : PyData) (ds : List PyData) (r : Rho) : forL g b (d :: ds) r = match g d r with
    | none => .bad
    | some r1 => match b r1 with
      | .nx r2 => forL g b ds r2
      | .ct r2 => forL g b ds r2
      | .bk r2 => .nx r2
      | .rt d r2 => .rt d r2
      | .ex c w r2 => .ex c w r2
      | .bad => .bad := rfl
/-- a loop that runs to its end -/
theorem forL_inv {g : PyData → Rho → Option Rho} {b : Rho → Fl} (I : Nat → Rho → Prop) : ∀ (ds : List PyData) (k : Nat) (r : Rho), I k r →
    (∀ j d r, ds[j]? = some d → I (k + j) r → ∃ r1 r2, g d r = some r1 ∧ b r1 = .nx r2 ∧ I (k + j + 1) r2) → ∃ r', forL g b ds r = .nx r' ∧ I (k + ds.length) r'
  | [], k, r, h, _ => ⟨r, rfl, h⟩
  | d :: ds, k, r, h, st => by
    obtain ⟨r1, r2, e1, e2, h2⟩ := st 0 d r rfl h
    obtain ⟨r', e3, h3⟩ := forL_inv I ds (k + 1) r2 h2 (fun j d' r' hd hi => by
      obtain ⟨a, b', c1, c2, c3⟩ := st (j + 1) d' r' (by simpa using hd) (by rw [show k + (j + 1) = k + 1 + j by omega]; exact hi)
      exact ⟨a, b', c1, c2, by rw [show k + 1 + j + 1 = k + (j + 1) + 1 by omega]; exact c3⟩)
    refine ⟨r', ?_, by rw [List.length_cons, show k + (ds.length + 1) = k + 1 + ds.length by omega]; exact h3⟩
    rw [e_forc, e1]
    simp only
    rw [e2]
    exact e3
theorem compL_inv {g : PyData → Rho → Option Rho} {t : Mi Bool} {m : Mi PyData} {vs : List Nat} (J : Nat → List PyData → Rho → Prop) : ∀ (ds acc : List PyData) (k : Nat) (r : Rho), J k acc r → acc.length + ds.length < 16777216 →
    (∀ j d acc r, ds[j]? = some d → J (k + j) acc r → ∃ r1 r2, g d (wipeR r vs) = some r1 ∧ ((t r1 = .ok false r2 ∧ J (k + j + 1) acc r2) ∨ ∃ y r3, t r1 = .ok true r2 ∧ m r2 = .ok y r3 ∧ J (k + j + 1) (acc ++ [y]) r3)) →
    ∃ acc' r', compL g t m vs ds acc r = .ok acc' r' ∧ J (k + ds.length) acc' r'
  | [], acc, k, r, h, _, _ => ⟨acc, r, rfl, h⟩
  | d :: ds, acc, k, r, h, hl, st => by
    have next : ∀ acc2 r2, acc2.length ≤ acc.length + 1 → J (k + 0 + 1) acc2 r2 → ∃ acc' r', compL g t m vs ds acc2 r2 = .ok acc' r' ∧ J (k + (d :: ds).length) acc' r' := fun acc2 r2 hl2 h2 => by
      rw [List.length_cons] at hl
      obtain ⟨a, b, c1, c2⟩ := compL_inv J ds acc2 (k + 1) r2 h2 (by omega) (fun j d' ac r' hd hi => by
        obtain ⟨x1, x2, y1, y2⟩ := st (j + 1) d' ac r' (by simpa using hd) (by rw [show k + (j + 1) = k + 1 + j by omega]; exact hi)
        rw [show k + (j + 1) + 1 = k + 1 + j + 1 by omega] at y2
        exact ⟨x1, x2, y1, y2⟩)
      exact ⟨a, b, c1, by rw [List.length_cons, show k + (ds.length + 1) = k + 1 + ds.length by omega]; exact c2⟩
    obtain ⟨r1, r2, e1, h2 | ⟨y, r3, e2, e3, h2⟩⟩ := st 0 d acc r rfl h
    · obtain ⟨e2, h2⟩ := h2
      obtain ⟨a, b, c1, c2⟩ := next acc r2 (by omega) h2
      refine ⟨a, b, ?_, c2⟩
      unfold compL
      rw [e1]
      simp only
      rw [e2]
      exact c1
    · obtain ⟨a, b, c1, c2⟩ := next (acc ++ [y]) r3 (by simp) h2
      refine ⟨a, b, ?_, c2⟩
      unfold compL
      rw [e1]
      simp only
      rw [e2]
      simp only
      rw [e3]
      simp only
      rw [if_pos (by rw [List.length_cons] at hl; omega)]
      exact c1
theorem compL_pure {v : Nat} {t : Mi Bool} {m : Mi PyData} (p : PyData → Bool) (f : PyData → PyData) {r0 : Rho} : ∀ (ds acc : List PyData) (r : Rho), r.set v none = r0.set v none → acc.length + ds.length < 16777216 →
    (∀ d ∈ ds, t (r0.set v (some (.val d))) = .ok (p d) (r0.set v (some (.val d))) ∧ (p d = true → m (r0.set v (some (.val d))) = .ok (f d) (r0.set v (some (.val d))))) →
    ∃ r', compL (gNm v) t m [v] ds acc r = .ok (acc ++ (ds.filter p).map f) r' ∧ r'.set v none = r0.set v none
  | [], acc, r, hr, _, _ => ⟨r, by simp [compL], hr⟩
  | d :: ds, acc, r, hr, hl, st => by
    obtain ⟨h1, h2⟩ := st d List.mem_cons_self
    have e0 : (wipeR r [v]).set v (some (.val d)) = r0.set v (some (.val d)) := by
      show (r.set v none).set v (some (.val d)) = _
      rw [hr, List.set_set]
    have e1 : gNm v d (wipeR r [v]) = some (r0.set v (some (.val d))) := by rw [e_gnm, e0]
    have hs : (r0.set v (some (.val d))).set v none = r0.set v none := List.set_set _
    rw [List.length_cons] at hl
    cases hp : p d with
    | false =>
      obtain ⟨r', c1, c2⟩ := compL_pure p f ds acc (r0.set v (some (.val d))) hs (by omega) fun x hx => st x (List.mem_cons_of_mem _ hx)
      refine ⟨r', ?_, c2⟩
      unfold compL
      rw [e1]
      simp only
      rw [h1, hp]
      simp only
      rw [c1, List.filter_cons_of_neg (by rw [hp]; decide)]
    | true =>
      obtain ⟨r', c1, c2⟩ := compL_pure p f ds (acc ++ [f d]) (r0.set v (some (.val d))) hs (by simp; omega) fun x hx => st x (List.mem_cons_of_mem _ hx)
      refine ⟨r', ?_, c2⟩
      unfold compL
      rw [e1]
      simp only
      rw [h1, hp]
      simp only
      rw [h2 hp]
      simp only
      rw [if_pos (by omega), c1, List.filter_cons_of_pos hp]
      simp
/-- a comprehension that changes nothing -/
theorem comp_pure {v : Nat} {t : Mi Bool} {m : Mi PyData} {mi : Mi (List PyData)} {r r0 : Rho} {ds : List PyData} (p : PyData → Bool) (f : PyData → PyData) (hi : mi r = .ok ds r0) (hv : r0[v]? = some none) (hl : ds.length < 16777216)
    (st : ∀ d ∈ ds, t (r0.set v (some (.val d))) = .ok (p d) (r0.set v (some (.val d))) ∧ (p d = true → m (r0.set v (some (.val d))) = .ok (f d) (r0.set v (some (.val d))))) :
    mComp mi (gNm v) t m [v] r = .ok ((ds.filter p).map f) r0 := by
  obtain ⟨r', c1, c2⟩ := compL_pure (v := v) (t := t) (m := m) p f ds [] r0 rfl (by simpa using hl) st
  rw [e_comp, e_bind, hi]
  simp only
  rw [c1]
  simp only [List.nil_append, e_rest1, e_rest0, hv]
  rw [c2]
  congr 1
  apply List.ext_getElem?
  intro j
  by_cases hj : v = j
  · subst hj
    rw [List.getElem?_set_self (List.getElem?_eq_some_iff.mp hv).1, hv]
  · rw [List.getElem?_set_ne hj]
end
theorem sApp_ok {i : Nat} {m : Mi PyData} {r r' : Rho} {d : PyData} {xs ys : List PyData} (h0 : hotOf r i = some ys) (hm : m r = .ok d r') (h1 : hotOf r' i = some xs) (hl : xs.length < 16777216) : sApp i m r = .nx (r'.set i (some (.hot (xs ++ [d])))) := by
  unfold sApp
  rw [h0]
  simp only [e_sBind]
  rw [hm]
  simp only
  rw [h1]
  simp only
  rw [if_pos hl]
end Dn
set_option maxHeartbeats 4000000
namespace Dn
open PySem PySem.Spec L2

/-! ## dicts -/
def keyOf : PyData → Option Key
  | .int i => some (.inl i)
  | .str x => some (.inr x)
  | _ => none
theorem keyOf_eq {d : PyData} {k : Key} (h : keyOf d = some k) : d = keyD k := by
  cases d with
  | int i =>
    cases h
    rfl
  | str x =>
    cases h
    rfl
  | _ => cases h
theorem keyV {K : PySem.W.Frag} {C : Hp} {v : V} {k : Key} (h : Dp K C v (keyD k)) : v = kV k := by
  cases k with
  | inl i =>
    cases h
    rfl
  | inr x =>
    cases h
    rfl
def keyB : PyData → PyData → Bool
  | .int i, .int j => decide (i = j)
  | .str x, .str y => decide (x = y)
  | _, _ => false
theorem keyB_eq (a b : Key) : keyB (keyD a) (keyD b) = decide (a = b) := by
  cases a with
  | inl i => cases b with
    | inl j =>
      show decide (i = j) = _
      by_cases h : i = j
      · subst h
        simp
      · rw [decide_eq_false h, decide_eq_false (fun z => h (Sum.inl.inj z))]
    | inr y =>
      show false = _
      simp
  | inr x => cases b with
    | inl j =>
      show false = _
      simp
    | inr y =>
      show decide (x = y) = _
      by_cases h : x = y
      · subst h
        simp
      · rw [decide_eq_false h, decide_eq_false (fun z => h (Sum.inr.inj z))]
def dget {α : Type} : List (PyData × α) → PyData → Option α
  | [], _ => none
  | p :: r, k => if keyB p.1 k then some p.2 else dget r k
def dput {α : Type} (kvs : List (PyData × α)) (k : PyData) (v : α) : List (PyData × α) := if kvs.any (fun p => keyB p.1 k) then kvs.map (fun p => if keyB p.1 k then (p.1, v) else p) else kvs ++ [(k, v)]
theorem dgetOk {K : PySem.W.Frag} {C : Hp} (q : Key) : ∀ {kv : List (Key × V)} {kvs : List (PyData × PyData)}, KvAt K C kv kvs → (dget kvs (keyD q) = none ∧ valV kv q = none) ∨ ∃ d v, dget kvs (keyD q) = some d ∧ valV kv q = some v ∧ Dp K C v d
  | _, _, .nil => .inl ⟨rfl, rfl⟩
  | (k, v) :: kv, (kd, d) :: kvs, .cons r t => by
    obtain ⟨rfl, r2⟩ := r
    unfold dget valV
    rw [List.find?_cons]
    simp only [keyB_eq]
    by_cases h : k = q
    · subst h
      simp only [decide_true, if_true]
      exact .inr ⟨d, v, rfl, rfl, r2⟩
    · simp only [decide_eq_false h, Bool.false_eq_true, if_false]
      exact dgetOk q t
theorem anyOk {α β : Type} {R : Key × α → PyData × β → Prop} (hR : ∀ p r, R p r → keyD p.1 = r.1) (q : Key) : ∀ {kv : List (Key × α)} {kvs : List (PyData × β)}, Paired R kv kvs → (kvs.any fun p => keyB p.1 (keyD q)) = kv.any fun p => decide (p.1 = q)
  | _, _, .nil => rfl
  | p :: kv, r :: kvs, .cons h t => by
    simp only [List.any_cons]
    rw [anyOk hR q t, ← hR p r h, keyB_eq]
theorem dputOk {K : PySem.W.Frag} {C : Hp} (q : Key) {v : V} {d : PyData} (dv : Dp K C v d) {kv : List (Key × V)} {kvs : List (PyData × PyData)} (h : KvAt K C kv kvs) : KvAt K C (putK kv q v) (dput kvs (keyD q) d) := by
  unfold putK dput
  rw [anyOk (fun p r z => z.1) q h]
  by_cases e : (kv.any fun p => decide (p.1 = q)) = true
  · rw [if_pos e, if_pos e]
    clear e
    induction h with
    | nil => exact .nil
    | @cons p r kv kvs z t ih =>
      obtain ⟨z1, z2⟩ := z
      rw [List.map_cons, List.map_cons]
      refine .cons ?_ ih
      rw [← z1, keyB_eq]
      by_cases hk : p.1 = q
      · rw [if_pos hk, if_pos (decide_eq_true hk)]
        exact ⟨rfl, dv⟩
      · rw [if_neg hk, if_neg (by rw [decide_eq_false hk]; decide)]
        exact ⟨z1, z2⟩
  · rw [if_neg e, if_neg e]
    have go : ∀ {kv : List (Key × V)} {kvs : List (PyData × PyData)}, KvAt K C kv kvs → KvAt K C (kv ++ [(q, v)]) (kvs ++ [(keyD q, d)]) := by
      intro kv kvs h
      induction h with
      | nil => exact .cons ⟨rfl, dv⟩ .nil
      | cons z t ih => exact .cons z ih
    exact go h
theorem kvLen {K : PySem.W.Frag} {C : Hp} {kv : List (Key × V)} {kvs : List (PyData × PyData)} (h : KvAt K C kv kvs) : kv.length = kvs.length := pairLen h
theorem putK_len {α : Type} {kvs : List (Key × α)} : True := trivial
theorem tabsUpdD {T : List (Addr × Str)} {H : Hp} {a : Addr} {vs ws : List (Key × V)} (h : LamX.Tabs T H) (ha : H a = some (.dK vs)) : LamX.Tabs T (upd H a (.dK ws)) := fun p hp => by
  obtain ⟨ps, e1, e2, e3⟩ := h p hp
  have n : p.1 ≠ a := fun z => by
    rw [z, ha] at e1
    cases e1
  refine ⟨ps, by rw [upd_ne n]; exact e1, e2, fun pos cv hc => ?_⟩
  obtain ⟨c, f1, f2⟩ := e3 pos cv hc
  refine ⟨c, f1, ?_⟩
  rw [upd_ne (fun z => by rw [z, ha] at f2; cases f2)]
  exact f2
def dictOf (r : Rho) (i : Nat) : Option (List (PyData × PyData)) := match r[i]? with
  | some (some (.hotD kvs)) => some kvs
  | _ => none
theorem dictOf_eq {r : Rho} {i : Nat} {kvs : List (PyData × PyData)} (h : dictOf r i = some kvs) : r[i]? = some (some (.hotD kvs)) := by
  unfold dictOf at h
  split at h
  · rename_i e
    cases h
    exact e
  · cases h
def dlOf (r : Rho) (i : Nat) : Option (List (PyData × List PyData)) := match r[i]? with
  | some (some (.hotDL kvs)) => some kvs
  | _ => none
theorem dlOf_eq {r : Rho} {i : Nat} {kvs : List (PyData × List PyData)} (h : dlOf r i = some kvs) : r[i]? = some (some (.hotDL kvs)) := by
  unfold dlOf at h
  split at h
  · rename_i e
    cases h
    exact e
  · cases h
section
variable {K : PySem.W.Frag} {F : Fr0} {C H : Hp} {σ : L2.St} {ρ : Rho}
theorem RE.dicAt (R : RE K F C σ H ρ) {i : Nat} {kvs : List (PyData × PyData)} (h : ρ[i]? = some (some (.hotD kvs))) : ∃ a kv, σ[i]? = some (some (.ref a)) ∧ C a = none ∧ H a = some (.dK kv) ∧ KvAt K C kv kvs ∧ Own K C σ H ρ i a := by
  obtain ⟨v, A, h1, ⟨a, kv, rfl, rfl, h2, h3, h4⟩, h5⟩ := R.entAt h
  exact ⟨a, kv, h1, h2, h3, h4, h5 a List.mem_cons_self⟩
theorem RE.writeD (R : RE K F C σ H ρ) {i : Nat} {kvs kvs' : List (PyData × PyData)} {a : Addr} {kv' : List (Key × V)} (h : ρ[i]? = some (some (.hotD kvs))) (ha : σ[i]? = some (some (.ref a))) (hw : KvAt K C kv' kvs') :
    RE K F C σ (upd H a (.dK kv')) (ρ.set i (some (.hotD kvs'))) := by
  obtain ⟨a', kv, e, h1, h2, h3, o⟩ := R.dicAt h
  rw [ha] at e
  cases e
  exact R.writeE (A := [a]) ha o rfl ⟨a, kv', rfl, rfl, h1, upd_same, hw⟩ (fun c hc => by
    cases List.mem_singleton.mp hc
    exact .inl o) (tabsUpdD R.tabs h2)
end
section
variable {X : Cx} {W : WX} {P : Pn} {a b c e : Expr} {es : List Expr} {ma mb mc mk mx : Mi PyData} {pos pos' p1 p2 p3 : Pos} {x : Str} {i : Nat}
/-- {} -/
def mDict0 : Mi Ent := Mi.ret (.hotD [])
def mDictL0 : Mi Ent := Mi.ret (.hotDL [])
theorem newE {F : Fr0} {C H : Hp} {σ : L2.St} {ρ : Rho} {q : Addr} {o : HO} (R : RE KD F C σ H ρ) (hq : H q = none) : RE KD F C σ (upd H q o) ρ ∧ C q = none ∧ ∀ b ∈ [q], F.H0 b = none ∧ (∀ j, ¬ Own KD C σ (upd H q o) ρ j b) ∧ ∀ g ∈ F.gd, g.1 ≠ b := by
  have hx : Same H (upd H q o) := sameUpd hq
  have ex : Ext C H C (upd H q o) := ⟨Same.refl _, R.ch.trans hx, hx, fun _ _ _ z => z, fun h => h⟩
  refine ⟨R.grow ex, R.ch.free hq, fun b hb => ?_⟩
  cases List.mem_singleton.mp hb
  exact ⟨R.h0None hq, R.hotNeU hq ex, R.gdNe hq⟩
theorem dnDict0 : DN X W P mDict0 (.Dict [] [] pos) := fun F hF => peImp pe_dnewK fun σ H Q ⟨C, ρ, R, h⟩ q hq => by
  obtain ⟨R', hn, hA⟩ := newE R hq
  exact h (.ref q) [q] C _ (Same.refl _) R' ⟨q, [], rfl, rfl, hn, upd_same, .nil⟩ rfl hA
theorem dnDictL0 : DN X W P mDictL0 (.Dict [] [] pos) := fun F hF => peImp pe_dnewK fun σ H Q ⟨C, ρ, R, h⟩ q hq => by
  obtain ⟨R', hn, hA⟩ := newE R hq
  exact h (.ref q) [q] C _ (Same.refl _) R' ⟨q, [], rfl, rfl, by simp, hn, upd_same, .nil⟩ rfl hA
/-- d[k] -/
def mGetD (i : Nat) (mk : Mi PyData) : Mi PyData := fun r => match dictOf r i with
  | some _ => (mk.bind fun k r' => match dictOf r' i with
    | some kvs => (match dget kvs k with
      | some d => if (keyOf k).isSome then .ok d r' else .bad
      | none => .bad)
    | none => .bad) r
  | none => .bad
theorem deGetD (hu : X.A.units + 1 < cLine) (hv : PE X (.Name x p1) (tVar i)) (hk : DE X W P mk e) (hs : NoSl e) : DE X W P (mGetD i mk) (.Subscript (.Name x p1) e pos) := fun F hF =>
  peImp (pe_dget hu hv (hk F hF) hs) fun σ H Q ⟨C, ρ, R, h⟩ => by
    unfold mGetD at h
    cases e1 : dictOf ρ i with
    | none =>
      rw [e1] at h
      exact h.elim
    | some kvs0 =>
      rw [e1] at h
      obtain ⟨ad, kv0, ea, _⟩ := R.dicAt (dictOf_eq e1)
      refine ⟨.ref ad, ea, C, ρ, R, (poBind (Rel1 := RelD X) h).imp fun y H2 ⟨C2, ρ2, k, s2, R2, d2, h2⟩ => ?_⟩
      cases e2 : dictOf ρ2 i with
      | none =>
        simp only [e2] at h2
        exact h2.elim
      | some kvs =>
        simp only [e2] at h2
        obtain ⟨a', kv, ea', g1, g2, g3, _⟩ := R2.dicAt (dictOf_eq e2)
        rw [ea] at ea'
        cases ea'
        cases e3 : dget kvs k with
        | none =>
          simp only [e3] at h2
          exact h2.elim
        | some d =>
          simp only [e3] at h2
          cases e4 : keyOf k with
          | none =>
            simp only [e4, Option.isSome_none, Bool.false_eq_true, if_false] at h2
            exact h2.elim
          | some q =>
            simp only [e4, Option.isSome_some, if_true] at h2
            have ek := keyOf_eq e4
            subst ek
            have ey := keyV d2
            subst ey
            rcases dgetOk q g3 with ⟨z, _⟩ | ⟨d', v, z1, z2, z3⟩
            · rw [z] at e3
              cases e3
            · rw [e3] at z1
              cases z1
              refine ⟨ad, v, rfl, ?_, poRet h2 R2 z3⟩
              rw [← z2]
              exact DGet.k g2
/-- k in d, k not in d -/
def mInD (i : Nat) (mk : Mi PyData) (f : Bool → Bool) : Mi Bool := mk.bind fun k r' => match dictOf r' i with
  | some kvs => if (keyOf k).isSome then .ok (f (dget kvs k).isSome) r' else .bad
  | none => .bad
theorem inDAux {F : Fr0} (hF : FOk F P) {f : Bool → Bool} {σ : L2.St} {H : Hp} {Q : Bool → Hp → Prop} (h : tM X F W RelB (mInD i mk f) σ H Q) :
    tM X F W (RelD X) mk σ H fun y H1 => ∃ v, σ[i]? = some (some v) ∧ ∃ a o, v = .ref a ∧ DGet H1 a y o ∧ Q (f o.isSome) H1 := by
  obtain ⟨C, ρ, R, h⟩ := h
  refine ⟨C, ρ, R, (poBind (Rel1 := RelD X) h).imp fun y H2 ⟨C2, ρ2, k, s2, R2, d2, h2⟩ => ?_⟩
  cases e2 : dictOf ρ2 i with
  | none =>
    simp only [e2] at h2
    exact h2.elim
  | some kvs =>
    simp only [e2] at h2
    obtain ⟨a', kv, ea', g1, g2, g3, _⟩ := R2.dicAt (dictOf_eq e2)
    cases e4 : keyOf k with
    | none =>
      simp only [e4, Option.isSome_none, Bool.false_eq_true, if_false] at h2
      exact h2.elim
    | some q =>
      simp only [e4, Option.isSome_some, if_true] at h2
      have ek := keyOf_eq e4
      subst ek
      have ey := keyV d2
      subst ey
      refine ⟨_, ea', a', valV kv q, rfl, DGet.k g2, ?_⟩
      rcases dgetOk q g3 with ⟨z1, z2⟩ | ⟨d', v, z1, z2, z3⟩
      · rw [z2]
        rw [z1] at h2
        exact poRet (Rel := RelB) h2 R2 rfl
      · rw [z2]
        rw [z1] at h2
        exact poRet (Rel := RelB) h2 R2 rfl
theorem dtInD (hu : X.A.units + 1 < cLine) (hv : PE X (.Name x p1) (tVar i)) (hk : DE X W P mk e) (hm : behindInMarks .In (.Name x p1) = false := by rfl) : DT X W P (mInD i mk id) (.Compare e [.In] [.Name x p1] pos) := fun F hF =>
  ptImp (pt_cmp (pc_din hu (hk F hF) hv) hm) fun σ H Q h => by
    obtain ⟨C, ρ, R, q⟩ := inDAux hF h
    exact ⟨C, ρ, R, q.imp fun y H1 ⟨v, ev, a, o, e1, e2, e3⟩ => ⟨v, ev, a, o, e1, e2, _, rfl, e3⟩⟩
theorem dtNotInD (hu : X.A.units + 1 < cLine) (hv : PE X (.Name x p1) (tVar i)) (hk : DE X W P mk e) (hm : behindInMarks .NotIn (.Name x p1) = false := by rfl) : DT X W P (mInD i mk not) (.Compare e [.NotIn] [.Name x p1] pos) := fun F hF =>
  ptImp (pt_cmp (pc_dnotin hu (hk F hF) hv) hm) fun σ H Q h => by
    obtain ⟨C, ρ, R, q⟩ := inDAux hF h
    exact ⟨C, ρ, R, q.imp fun y H1 ⟨v, ev, a, o, e1, e2, e3⟩ => ⟨v, ev, a, o, e1, e2, _, rfl, e3⟩⟩
/-- d[k] = v -/
def sPutD (i : Nat) (mk mx : Mi PyData) : Rho → Fl := sBind mx fun d r => match dictOf r i with
  | none => .bad
  | some _ => sBind mk (fun k r' => match dictOf r' i with
    | some kvs => if (keyOf k).isSome ∧ kvs.length < 16777216 then .nx (r'.set i (some (.hotD (dput kvs k d)))) else .bad
    | none => .bad) r
theorem dsPutD (hu : X.A.units + 1 < cLine) (hv : PE X (.Name x p1) (tVar i)) (hk : DE X W P mk e) (hx : DE X W P mx b) (hs : swapsWith b (some (.Subscript (.Name x p1) e p2)) pos.line X.env = pure false := by rfl) :
    DS X W P (sPutD i mk mx) (.Assign [.Subscript (.Name x p1) e p2] b pos) := fun F hF =>
  psImp (ps_dput hu hv (hk F hF) (hx F hF) hs) fun D σ H ⟨C, ρ, R, p⟩ => by
    refine ⟨C, ρ, R, (posBind p).imp fun v H1 ⟨C1, ρ1, d, s1, R1, d1, h1⟩ => ?_⟩
    cases e1 : dictOf ρ1 i with
    | none =>
      simp only [e1] at h1
      exact h1.elim
    | some kvs0 =>
      simp only [e1] at h1
      obtain ⟨ad, kv0, ea, _⟩ := R1.dicAt (dictOf_eq e1)
      refine ⟨.ref ad, ea, C1, ρ1, R1, (posBind h1).imp fun y H2 ⟨C2, ρ2, k, s2, R2, d2, h2⟩ => ?_⟩
      cases e2 : dictOf ρ2 i with
      | none =>
        simp only [e2] at h2
        exact h2.elim
      | some kvs =>
        simp only [e2] at h2
        by_cases hc : (keyOf k).isSome ∧ kvs.length < 16777216
        · rw [if_pos hc] at h2
          obtain ⟨a', kv, ea', g1, g2, g3, _⟩ := R2.dicAt (dictOf_eq e2)
          rw [ea] at ea'
          cases ea'
          obtain ⟨q, e4⟩ := Option.isSome_iff_exists.mp hc.1
          have ek := keyOf_eq e4
          subst ek
          have ey := keyV d2
          subst ey
          refine ⟨ad, _, rfl, DPut.k g2 (by rw [kvLen g3, sizeLine_eq]; exact hc.2), ?_⟩
          exact h2 σ C2 _ (Same.refl _) (R2.writeD (dictOf_eq e2) ea (dputOk q (dpMono s2 d1) g3))
        · rw [if_neg hc] at h2
          exact h2.elim
/-- d.get(k), d.get(k, x) -/
def mGet1 (i : Nat) (mk : Mi PyData) : Mi PyData := fun r => match dictOf r i with
  | some _ => (mk.bind fun k r' => match dictOf r' i with
    | some kvs => if (keyOf k).isSome then .ok ((dget kvs k).getD .none) r' else .bad
    | none => .bad) r
  | none => .bad
theorem deGet1 (hu : X.A.units + 1 < cLine) (hv : PE X (.Name x p1) (tVar i)) (hk : DE X W P mk e) (m : M1 X (.Name x p1) "get" p2 e pos := by exact ⟨rfl, rfl, rfl, rfl⟩) : DE X W P (mGet1 i mk) (.Call (.Attribute (.Name x p1) "get" p2) [e] [] pos) := fun F hF =>
  peImp (pe_dget1 hu hv (hk F hF) m) fun σ H Q ⟨C, ρ, R, h⟩ => by
    unfold mGet1 at h
    cases e1 : dictOf ρ i with
    | none =>
      rw [e1] at h
      exact h.elim
    | some kvs0 =>
      rw [e1] at h
      obtain ⟨ad, kv0, ea, _, g0, _⟩ := R.dicAt (dictOf_eq e1)
      refine ⟨.ref ad, ea, ad, rfl, .inl ⟨kv0, .inl g0⟩, C, ρ, R, (poBind (Rel1 := RelD X) h).imp fun y H2 ⟨C2, ρ2, k, s2, R2, d2, h2⟩ => ?_⟩
      cases e2 : dictOf ρ2 i with
      | none =>
        simp only [e2] at h2
        exact h2.elim
      | some kvs =>
        simp only [e2] at h2
        obtain ⟨a', kv, ea', g1, g2, g3, _⟩ := R2.dicAt (dictOf_eq e2)
        rw [ea] at ea'
        cases ea'
        cases e4 : keyOf k with
        | none =>
          simp only [e4, Option.isSome_none, Bool.false_eq_true, if_false] at h2
          exact h2.elim
        | some q =>
          simp only [e4, Option.isSome_some, if_true] at h2
          have ek := keyOf_eq e4
          subst ek
          have ey := keyV d2
          subst ey
          refine ⟨valV kv q, DGet.k g2, ?_⟩
          rcases dgetOk q g3 with ⟨z1, z2⟩ | ⟨d', v, z1, z2, z3⟩
          · rw [z2]
            rw [z1] at h2
            exact poRet h2 R2 .non
          · rw [z2]
            rw [z1] at h2
            exact poRet h2 R2 z3
def mGet2 (i : Nat) (mk mx : Mi PyData) : Mi PyData := fun r => match dictOf r i with
  | some _ => (mk.bind fun k => mx.bind fun z r' => match dictOf r' i with
    | some kvs => if (keyOf k).isSome then .ok ((dget kvs k).getD z) r' else .bad
    | none => .bad) r
  | none => .bad
theorem deGet2 (hu : X.A.units + 1 < cLine) (hv : PE X (.Name x p1) (tVar i)) (hk : DE X W P mk e) (hx : DE X W P mx b) (m : M2 X (.Name x p1) "get" p2 e b pos := by exact ⟨rfl, rfl, rfl, rfl⟩) : DE X W P (mGet2 i mk mx) (.Call (.Attribute (.Name x p1) "get" p2) [e, b] [] pos) := fun F hF =>
  peImp (pe_dget2 hu hv (hk F hF) (hx F hF) m) fun σ H Q ⟨C, ρ, R, h⟩ => by
    unfold mGet2 at h
    cases e1 : dictOf ρ i with
    | none =>
      rw [e1] at h
      exact h.elim
    | some kvs0 =>
      rw [e1] at h
      obtain ⟨ad, kv0, ea, _, g0, _⟩ := R.dicAt (dictOf_eq e1)
      refine ⟨.ref ad, ea, ad, rfl, .inl ⟨kv0, .inl g0⟩, C, ρ, R, (poBind (Rel1 := RelD X) h).imp fun y H2 ⟨C2, ρ2, k, s2, R2, d2, h2⟩ => ⟨C2, ρ2, R2, (poBind (Rel1 := RelD X) h2).imp fun z H3 ⟨C3, ρ3, zd, s3, R3, d3, h3⟩ => ?_⟩⟩
      cases e2 : dictOf ρ3 i with
      | none =>
        simp only [e2] at h3
        exact h3.elim
      | some kvs =>
        simp only [e2] at h3
        obtain ⟨a', kv, ea', g1, g2, g3, _⟩ := R3.dicAt (dictOf_eq e2)
        rw [ea] at ea'
        cases ea'
        cases e4 : keyOf k with
        | none =>
          simp only [e4, Option.isSome_none, Bool.false_eq_true, if_false] at h3
          exact h3.elim
        | some q =>
          simp only [e4, Option.isSome_some, if_true] at h3
          have ek := keyOf_eq e4
          subst ek
          have ey := keyV d2
          subst ey
          refine ⟨valV kv q, DGet.k g2, ?_⟩
          rcases dgetOk q g3 with ⟨z1, z2⟩ | ⟨d', v, z1, z2, z3⟩
          · rw [z2]
            rw [z1] at h3
            exact poRet h3 R3 d3
          · rw [z2]
            rw [z1] at h3
            exact poRet h3 R3 z3
end
end Dn
set_option maxHeartbeats 4000000
namespace SrtO
open PySem PyProof.Rows Srt
/-- v is a tuple of these ints in the heap -/
def IsTI (h : Heap) (v : Value) (ns : List Int) : Prop := ∃ a o its n, v = .ref a ∧ h.get? a = some o ∧ o.cls = .type "tuple" ∧ o.data = .seq its n ∧ PySem.Paired (fun (u : Value) (i : Int) => ∃ t, u = .int i t) its.toList ns
theorem IsTI.keeps {h h' : Heap} {v : Value} {ns : List Int} (p : IsTI h v ns) (k : ∀ b o, h.get? b = some o → o.cls = .type "tuple" → h'.get? b = some o) : IsTI h' v ns := by
  obtain ⟨a, o, its, n, e, ho, hc, hd, r⟩ := p
  exact ⟨a, o, its, n, e, k _ _ ho hc, hc, hd, r⟩
theorem firsts_TI {h : Heap} (k : Value → List Int) : ∀ {vs : List Value}, (∀ v ∈ vs, IsTI h v (k v) ∧ k v ≠ []) → ∃ fs : List Value, PySem.W.KatTups h vs fs ∧ fs.length = vs.length ∧ ∀ f ∈ fs, ∃ x t, f = Value.int x t
  | [], _ => ⟨[], PySem.W.KatTups.nil, rfl, fun _ hm => by simp at hm⟩
  | v :: vs, hp => by
    obtain ⟨fs, h1, h2, h3⟩ := firsts_TI k (vs := vs) fun v' hm => hp v' (List.mem_cons_of_mem _ hm)
    obtain ⟨⟨a, o, its, n, e, ho, hc, hd, r⟩, hne⟩ := hp v List.mem_cons_self
    subst e
    cases hk : k (.ref a) with
    | nil => exact absurd hk hne
    | cons i r' =>
      rw [hk] at r
      cases hi : its.toList with
      | nil =>
        rw [hi] at r
        cases r
      | cons u us =>
        rw [hi] at r
        cases r with
        | cons z t =>
          obtain ⟨tk, rfl⟩ := z
          refine ⟨.int i tk :: fs, PySem.W.KatTups.cons ho hc hd ?_ h1, by rw [List.length_cons, List.length_cons, h2], fun f hm => ?_⟩
          · have e : its.toList[0]? = some (.int i tk) := by rw [hi]; rfl
            simpa using e
          · rcases List.mem_cons.mp hm with rfl | hm
            · exact ⟨i, tk, rfl⟩
            · exact h3 f hm
section
variable {prog : Program} {w : World} {A : Around} {E : Value → Shared → Prop} {s : Shared}
theorem kat_TI {Q : Bool → Shared → Prop} : ∀ {xs ys : List Value} {ns ms : List Int} (i : Nat) {fin : Bool}, PySem.Paired (fun (u : Value) (i : Int) => ∃ t, u = .int i t) xs ns → PySem.Paired (fun (u : Value) (i : Int) => ∃ t, u = .int i t) ys ms →
    (∀ j, ns.drop j = [] ∨ ms.drop j = [] → True) → (fin = decide (ns.length < ms.length)) → Q (HT.lexLt ns ms) s → PySem.W.KatLex prog w A true fin Q (xs.zip ys) i s
  | [], [], _, _, i, fin, .nil, .nil, _, hf, h => PySem.W.kat_nil (by rw [hf]; exact h)
  | [], _ :: _, _, _, i, fin, .nil, .cons _ _, _, hf, h => PySem.W.kat_nil (by rw [hf]; simpa [HT.lexLt] using h)
  | _ :: _, [], _, _, i, fin, .cons _ _, .nil, _, hf, h => PySem.W.kat_nil (by rw [hf]; simpa [HT.lexLt] using h)
  | _ :: xs, _ :: ys, n :: ns, m :: ms, i, fin, .cons z1 t1, .cons z2 t2, hx, hf, h => by
    obtain ⟨tk, rfl⟩ := z1
    obtain ⟨tk', rfl⟩ := z2
    rw [List.zip_cons_cons]
    refine PySem.W.kat_cons (SeqAt.EqAt.int_int n tk m tk' prog w _ _ ?_)
    rw [HT.lexLt_cons] at h
    refine PySem.W.kat_go (fun e1 => ?_) (fun e1 => ?_)
    · have ex : n = m := by simpa using e1
      rw [if_pos ex] at h
      exact PySem.W.kat_yes (kat_TI (i + 1) t1 t2 (fun _ _ => trivial) (by rw [hf]; simp) h)
    · have ex : ¬ n = m := by simpa using e1
      rw [if_neg ex] at h
      exact PySem.W.kat_no (TS.oneLt_ints _ h)
theorem TI_cmp {vs : List Value} {k : Value → List Int} (hp : ∀ v ∈ vs, IsTI s.heap v (k v)) : Cmp prog w A s (tuples' true) (fun p => p.1 ∈ vs) (lt2 fun v u => HT.lexLt (k v) (k u)) := by
  intro p q hm hm'
  obtain ⟨a, o, its, n, e, ho, hc, hd, r⟩ := hp _ hm
  obtain ⟨a', o', its', n', e', ho', hc', hd', r'⟩ := hp _ hm'
  show wpAny (model prog w) A (keyLt' (tuples' true) p.1 q.1) (fun x s' => s' = s ∧ x = HT.lexLt (k p.1) (k q.1)) (fun _ _ => False) s
  generalize k p.1 = ns at r ⊢
  generalize k q.1 = ms at r' ⊢
  rw [e, e']
  refine PySem.W.kat_lt ho hd ho' hd' ?_
  exact kat_TI 0 r r' (fun _ _ => trivial) (by
    rw [← Dn.pairLen r, ← Dn.pairLen r']
    simp) ⟨rfl, rfl⟩
theorem TI_sortableO {a : Addr} {vs : List Value} {k : Value → List Int} (h0 : 0 < vs.length) (hp : ∀ v ∈ vs, IsTI s.heap v (k v) ∧ k v ≠ []) (ha : ∀ o, s.heap.get? a = some o → o.cls ≠ .type "tuple") : SortableO prog w A s a vs fun v u => HT.lexLt (k v) (k u) := by
  intro h' keep
  have hp' : ∀ v ∈ vs, IsTI h' v (k v) ∧ k v ≠ [] := fun v hm => ⟨(hp v hm).1.keeps fun b o e c => keep b o (fun z => by subst z; exact ha o e c) e, (hp v hm).2⟩
  obtain ⟨fs, h1, h2, h3⟩ := firsts_TI k hp'
  refine ⟨tuples' true, fun Q E hq => ?_, TI_cmp fun v hv => (hp' v hv).1⟩
  refine PySem.W.kat_kind (T := .type "int") h1 (by omega) (fun f hm => ?_) (by rfl) ?_
  · obtain ⟨x, t, rfl⟩ := h3 f hm
    exact PySem.W.Looks.now
  · have e : (Value.type "int" != Value.type "tuple") = true := by first | decide +kernel | rfl | decide
    rw [e]
    exact hq
theorem lexLt_irr : ∀ a : List Int, HT.lexLt a a = false
  | [] => rfl
  | x :: xs => by rw [HT.lexLt_cons, if_pos rfl]; exact lexLt_irr xs
theorem lexLt_asym : ∀ {a b : List Int}, HT.lexLt a b = true → HT.lexLt b a = false
  | [], [], h => by cases h
  | [], _ :: _, _ => rfl
  | _ :: _, [], h => by cases h
  | x :: xs, y :: ys, h => by
    rw [HT.lexLt_cons] at h ⊢
    by_cases e : x = y
    · rw [if_pos e] at h
      rw [if_pos e.symm]
      exact lexLt_asym h
    · rw [if_neg e] at h
      rw [if_neg (fun z => e z.symm)]
      have : x < y := by simpa using h
      exact decide_eq_false (by omega)
theorem lexLt_conn : ∀ {a b : List Int}, HT.lexLt a b = false → HT.lexLt b a = false → a = b
  | [], [], _, _ => rfl
  | [], _ :: _, h, _ => by cases h
  | _ :: _, [], _, h => by cases h
  | x :: xs, y :: ys, h, g => by
    rw [HT.lexLt_cons] at h g
    by_cases e : x = y
    · subst e
      rw [if_pos rfl] at h g
      rw [lexLt_conn h g]
    · rw [if_neg e] at h
      rw [if_neg (fun z => e z.symm)] at g
      have h1 : ¬ x < y := by simpa using h
      have g1 : ¬ y < x := by simpa using g
      omega
theorem lexLt_trans : ∀ {a b c : List Int}, HT.lexLt a b = true → HT.lexLt b c = true → HT.lexLt a c = true
  | [], [], _, h, _ => by cases h
  | [], _ :: _, [], _, h => by cases h
  | [], _ :: _, _ :: _, _, _ => rfl
  | _ :: _, [], _, h, _ => by cases h
  | _ :: _, _ :: _, [], _, h => by cases h
  | x :: xs, y :: ys, z :: zs, h, g => by
    rw [HT.lexLt_cons] at h g ⊢
    by_cases e : x = y
    · subst e
      rw [if_pos rfl] at h
      by_cases e2 : x = z
      · rw [if_pos e2] at g ⊢
        exact lexLt_trans h g
      · rw [if_neg e2] at g ⊢
        exact g
    · rw [if_neg e] at h
      have h1 : x < y := by simpa using h
      by_cases e2 : y = z
      · subst e2
        rw [if_neg e]
        exact h
      · rw [if_neg e2] at g
        have g1 : y < z := by simpa using g
        rw [if_neg (by omega)]
        exact decide_eq_true (by omega)
theorem lexLe_trans {a b c : List Int} (h : HT.lexLt b a = false) (g : HT.lexLt c b = false) : HT.lexLt c a = false := by
  cases e : HT.lexLt c a with
  | false => rfl
  | true =>
    cases e2 : HT.lexLt a b with
    | true =>
      rw [lexLt_trans e e2] at g
      cases g
    | false =>
      rw [lexLt_conn e2 h] at e
      rw [e] at g
      cases g
theorem swo_TI (k : Value → List Int) : Swo fun v u => HT.lexLt (k v) (k u) := ⟨fun x y h => lexLt_asym h, fun x y z h1 h2 => lexLe_trans h1 h2⟩
/-- sorted(l) of tuples of ints: sorted by k -/
theorem sorted_TI {l : Addr} {vs : List Value} {k : Value → List Int} {Q : Value → Shared → Prop} (hl : s.heap.IsList l vs.toArray) (hz : vs.length ≤ sizeLine) (hp : ∀ v ∈ vs, IsTI s.heap v (k v) ∧ k v ≠ [])
    (h : ∀ (h' : Heap) (d : Addr) (out : List Value), Srtd (fun v u => HT.lexLt (k v) (k u)) out → Stb (fun v u => HT.lexLt (k v) (k u)) out vs → (∀ b o, s.heap.get? b = some o → h'.get? b = some o) → s.heap.objs.size ≤ d → (∃ n, h'.get? d = some (seqObj "list" out.toArray n)) → Q (.ref d) { s with heap := h' }) :
    wpAny (model prog w) A (call (.builtin "sorted") [.ref l]) Q E s := by
  refine sorted_ord (swo_TI k) hl hz (fun h2 h₁ a ha kk => ?_) fun out hs hb => ?_
  · refine TI_sortableO (s := { s with heap := h₁ }) (by omega) (fun v hm => ⟨(hp v hm).1.keeps fun b o e _ => (kk b o e).2, (hp v hm).2⟩) fun o e => ?_
    have e' : some o = some (seqObj "list" vs.toArray 0) := e.symm.trans ha
    cases e'
    intro c
    exact absurd (Value.type.inj c) (by decide)
  · exact h _ _ out hs hb (fun b o e => sortedAll_old e) (Nat.le_succ _) (sortedAll_at s.heap vs out.toArray)
end
end SrtO

namespace Dn
open PySem PySem.Spec PyProof.Rows L2
theorem srtUniq {α : Type} {r : α → α → Prop} (anti : ∀ a b, r a b → r b a → a = b) : ∀ {l m : List α}, l.Pairwise r → m.Pairwise r → l.Perm m → l = m
  | [], m, _, _, h => (List.Perm.eq_nil h.symm).symm
  | x :: l, [], _, _, h => absurd h.length_eq (by simp)
  | x :: l, y :: m, hl, hm, h => by
    obtain ⟨l1, l2⟩ := List.pairwise_cons.mp hl
    obtain ⟨m1, m2⟩ := List.pairwise_cons.mp hm
    have e : x = y := by
      rcases List.mem_cons.mp (h.mem_iff.mp List.mem_cons_self) with z | hx
      · exact z
      · rcases List.mem_cons.mp (h.mem_iff.mpr List.mem_cons_self) with z | hy
        · exact z.symm
        · exact anti x y (l1 y hy) (m1 x hx)
    subst e
    rw [srtUniq anti l2 m2 h.cons_inv]
def leI (a b : Int) : Bool := decide (a ≤ b)
def leT (a b : List Int) : Bool := !HT.lexLt b a
def srtI (ns : List Int) : List Int := ns.mergeSort leI
def srtT (ks : List (List Int)) : List (List Int) := ks.mergeSort leT
theorem srtI_perm (ns : List Int) : (srtI ns).Perm ns := List.mergeSort_perm _ _
theorem srtT_perm (ns : List (List Int)) : (srtT ns).Perm ns := List.mergeSort_perm _ _
theorem srtI_le (ns : List Int) : (srtI ns).Pairwise (· ≤ ·) := by
  have h := List.pairwise_mergeSort (le := leI) (fun a b c h1 h2 => by simp [leI] at *; omega) (fun a b => by simp [leI]; omega) ns
  exact h.imp fun z => by simpa [leI] using z
theorem leT_tot (a b : List Int) : (leT a b || leT b a) = true := by
  unfold leT
  cases h : HT.lexLt b a with
  | false => simp
  | true => simp [SrtO.lexLt_asym h]
theorem srtT_le (ns : List (List Int)) : (srtT ns).Pairwise fun a b => HT.lexLt b a = false := by
  have h := List.pairwise_mergeSort (le := leT) (fun a b c h1 h2 => by
    unfold leT at *
    simp only [Bool.not_eq_true'] at *
    exact SrtO.lexLe_trans h1 h2) leT_tot ns
  exact h.imp fun z => by simpa [leT] using z
theorem srtI_uniq {ns ms : List Int} (h1 : ms.Perm ns) (h2 : ms.Pairwise (· ≤ ·)) : ms = srtI ns := srtUniq (fun a b x y => Int.le_antisymm x y) h2 (srtI_le ns) (h1.trans (srtI_perm ns).symm)
theorem srtT_uniq {ns ms : List (List Int)} (h1 : ms.Perm ns) (h2 : ms.Pairwise fun a b => HT.lexLt b a = false) : ms = srtT ns := srtUniq (fun a b x y => SrtO.lexLt_conn y x) h2 (srtT_le ns) (h1.trans (srtT_perm ns).symm)
def tupD (ns : List Int) : PyData := .tuple (ns.map .int)
def tupsOf : List PyData → Option (List (List Int))
  | [] => some []
  | .tuple xs :: ds => match intsOf xs with
    | some (n :: ns) => (tupsOf ds).map ((n :: ns) :: ·)
    | _ => none
  | _ :: _ => none
def bSort : List PyData → Option PyData
  | [.list ds] => match intsOf ds with
    | some ns => some (.list ((srtI ns).map .int))
    | none => (tupsOf ds).map fun ks => .list ((srtT ks).map tupD)
  | _ => none
theorem tupsOk {C : Hp} : ∀ {ds : List PyData} {vs : List V} {ks : List (List Int)}, DpAll KD C vs ds → tupsOf ds = some ks → ds = ks.map tupD ∧ Paired (fun (v : V) (k : List Int) => k ≠ [] ∧ ∃ t, v = .ref t ∧ SqT KD C t (k.map V.int)) vs ks
  | [], _, _, h, e => by
    cases h
    cases e
    exact ⟨rfl, .nil⟩
  | d :: ds, _, ks, .cons h hs, e => by
    cases h with
    | @tup a xs es ht he =>
      unfold tupsOf at e
      cases e1 : intsOf es with
      | none =>
        rw [e1] at e
        cases e
      | some ns =>
        cases ns with
        | nil =>
          rw [e1] at e
          cases e
        | cons n ns =>
          rw [e1] at e
          simp only [Option.map_eq_some_iff] at e
          obtain ⟨ks', e2, rfl⟩ := e
          obtain ⟨h1, h2⟩ := tupsOk hs e2
          obtain ⟨h3, h4⟩ := intsOk he e1
          refine ⟨by rw [List.map_cons, ← h1, h4]; rfl, .cons ⟨by simp, a, rfl, ?_⟩ h2⟩
          rw [← h3]
          exact ht
    | _ => cases e
theorem pairMap {α β : Type} {R : α → β → Prop} : ∀ {xs : List α} {ys : List β}, Paired R xs ys → ∀ (f : α → β), (∀ x ∈ xs, ∀ y, R x y → f x = y) → xs.map f = ys
  | _, _, .nil, _, _ => rfl
  | _, _, .cons r t, f, h => by
    rw [List.map_cons, h _ List.mem_cons_self _ r, pairMap t f fun x hx => h x (List.mem_cons_of_mem _ hx)]
section
variable {X : Cx}
theorem kSort : CallR X (.builtin "sorted") (rDs bSort) := by
  intro pins s σ H xs us Q I r h
  obtain ⟨C, ds, d, e, sm, da, q⟩ := h
  cases da with
  | nil => cases e
  | cons d1 d2 =>
    cases d2 with
    | cons _ _ => cases d1 <;> cases e
    | nil =>
      cases d1 with
      | @lst p vs ds hs hd =>
        simp only [bSort] at e
        cases e1 : intsOf ds with
        | some ns =>
          simp only [e1] at e
          cases e
          obtain ⟨rfl, rfl⟩ := intsOk hd e1
          refine cr_sortedI pins s σ H _ us Q I r ⟨p, ns, rfl, upL (sm.seq hs), fun ns' b h1 h2 hb => ?_⟩
          rw [srtI_uniq h1 h2]
          have ex : Ext C H (upd C b (.lst ((srtI ns).map V.int))) (upd H b (.lst ((srtI ns).map V.int))) := Ext.new sm hb
          exact q _ _ _ ex (.lst (.inl (.inl upd_same)) (dpaInts _))
        | none =>
          simp only [e1, Option.map_eq_some_iff] at e
          obtain ⟨ks, e2, rfl⟩ := e
          obtain ⟨h1, h2⟩ := tupsOk hd e2
          have hsX : SqL X.K H p vs := upL (sm.seq hs)
          obtain ⟨its, rv, hl, hz⟩ := I.list hsX
          obtain ⟨u, rfl, ru⟩ := vals1 r
          obtain rfl : u = Value.ref p := ru
          have isRef : ∀ x ∈ vs, ∃ t, x = V.ref t := fun x hx => by
            obtain ⟨j, hj⟩ := memAt hx
            obtain ⟨k, _, _, t, e, _⟩ := pairGet h2 hj
            exact ⟨t, e⟩
          obtain ⟨b1, b2⟩ := refs_back rv isRef
          -- the key of a value, by what stands there
          have hex : ∀ v : V, ∃ k : List Int, (v ∈ vs → ∃ t, v = .ref t ∧ SqT KD C t (k.map V.int) ∧ k ≠ []) := fun v => by
            by_cases hv : v ∈ vs
            · obtain ⟨j, hj⟩ := memAt hv
              obtain ⟨k, _, z1, t, e, z2⟩ := pairGet h2 hj
              exact ⟨k, fun _ => ⟨t, e, z2, z1⟩⟩
            · exact ⟨[], fun z => absurd z hv⟩
          let key : V → List Int := fun v => Classical.choose (hex v)
          have hkey : ∀ v ∈ vs, ∃ t, v = .ref t ∧ SqT KD C t ((key v).map V.int) ∧ key v ≠ [] := fun v hv => Classical.choose_spec (hex v) hv
          have sqH : ∀ {t : Addr} {k : List Int}, SqT KD C t (k.map V.int) → SqT X.K H t (k.map V.int) := fun z => upT (sameT sm z)
          have inj : ∀ {xs ys : List Int}, xs.map V.int = ys.map V.int → xs = ys := by
            intro xs
            induction xs with
            | nil =>
              intro ys h
              cases ys with
              | nil => rfl
              | cons _ _ => simp at h
            | cons x xs ih =>
              intro ys h
              cases ys with
              | nil => simp at h
              | cons y ys =>
                simp only [List.map_cons, List.cons.injEq, V.int.injEq] at h
                rw [h.1, ih h.2]
          have keys : vs.map key = ks := pairMap h2 key fun v hv k ⟨_, t, e, z⟩ => by
            obtain ⟨t', e', z', _⟩ := hkey v hv
            rw [e] at e'
            cases e'
            exact inj (I.tuple_inj (sqH z') (sqH z))
          refine SrtO.sorted_TI (k := fun u => key (backV u)) hl.isList (by rw [← rv.length]; exact hz) (fun u hu => ?_) fun h' dd out s1 s2 kp hd' hn => ?_
          · have hm : backV u ∈ vs := by rw [b1]; exact List.mem_map_of_mem hu
            obtain ⟨t, e, z, z2⟩ := hkey _ hm
            obtain ⟨t', rfl⟩ := b2 u hu
            have e' : V.ref t' = V.ref t := e
            cases e'
            obtain ⟨its2, r2, ⟨o, ho, hc, n, hdt⟩, _⟩ := I.tuple (sqH z)
            refine ⟨⟨_, o, its2.toArray, n, rfl, ho, hc, hdt, ?_⟩, z2⟩
            have go : ∀ {k : List Int} {us : List Value}, Vals (k.map V.int) us → Paired (fun (u : Value) (i : Int) => ∃ t, u = .int i t) us k := by
              intro k
              induction k with
              | nil =>
                intro us h
                cases h
                exact .nil
              | cons i k ih =>
                intro us h
                cases h with
                | cons z t =>
                  obtain ⟨tk, rfl⟩ := z
                  exact .cons ⟨tk, rfl⟩ (ih t)
            exact go r2
          · have o3 : ∀ u ∈ out, ∃ a, u = Value.ref a := fun u hu => b2 u (s2.perm.mem_iff.mp hu)
            obtain ⟨n, hn⟩ := hn
            have pm : (out.map backV).Perm vs := by
              rw [b1]
              exact s2.perm.map backV
            have kk : (out.map backV).map key = srtT ks := by
              refine srtT_uniq (by rw [← keys]; exact pm.map key) ?_
              rw [List.map_map, List.pairwise_map]
              exact s1
            have hln : (out.map backV).length ≤ sizeLine := by
              rw [pm.length_eq]
              exact hz
            have hnew : H dd = none := I.hok.fresh hd'
            have ex : Ext C H (upd C dd (.lst (out.map backV))) (upd H dd (.lst (out.map backV))) := Ext.new sm hnew
            refine ⟨.ref dd, upd H dd (.lst (out.map backV)), I.laid (t' := s.toks) kp hd' ⟨hln, out, n, vals_back o3, hn⟩, rfl, q _ _ _ ex (.lst (.inl (.inl upd_same)) ?_)⟩
            rw [← kk]
            have go : ∀ l : List V, (∀ v ∈ l, v ∈ vs) → DpAll KD (upd C dd (.lst (out.map backV))) l ((l.map key).map tupD) := by
              intro l
              induction l with
              | nil => exact fun _ => .nil
              | cons v l ih =>
                intro hl
                obtain ⟨t, e, z, _⟩ := hkey v (hl v List.mem_cons_self)
                subst e
                exact .cons (.tup (sameT ex.cc z) (dpaInts _)) (ih fun x hx => hl x (List.mem_cons_of_mem _ hx))
            exact go _ fun v hv => pm.mem_iff.mp hv
      | _ => cases e
end
end Dn
set_option maxHeartbeats 4000000
namespace Dn
open PySem PySem.Spec PyProof.Rows L2

section
variable {X : Cx} {W : WX} {P : Pn} {a b c e : Expr} {es : List Expr} {ma mb mc mk mx : Mi PyData} {pos pos' p1 p2 p3 : Pos} {x y : Str} {i j : Nat}
/-! ### list(e), new -/
def seqOf : PyData → Option (List PyData)
  | .list ds => some ds
  | .tuple ds => some ds
  | _ => none
def mLstOf (m : Mi PyData) : Mi (List PyData) := m.bind fun d => Mi.opt (seqOf d)
theorem dfListOf {p : Pos} (ha : DE X W P ma e) (hg : Gl X "list") (hm : X.mg "list" = none)
    (he : starEach [e] X.env = (false, eval e X.env) :: starEach [] X.env := by rfl) (hpl : (backTo pos (starEach [] X.env)).any (·.1) = false := by rfl) : DF X W P (mLstOf ma) (.Call (.Name "list" p) [e] [] pos) := fun F hF =>
  peImp (pe_callTy call_list_of hg hm (by decide +kernel) (pa_cons (ha F hF) pa_nil he) (by decide) (by decide) he hpl) fun σ H Q ⟨C, ρ, R, h⟩ => by
    refine ⟨C, ρ, R, ?_⟩
    unfold mLstOf Mi.bind at h
    cases em : ma ρ with
    | bad =>
      rw [em] at h
      exact h
    | ex c w r =>
      rw [em] at h
      exact h
    | ok d r =>
      rw [em] at h
      intro v C1 H1 s1 R1 dv
      cases ed : seqOf d with
      | none =>
        simp only [ed, Mi.opt] at h
        exact h.elim
      | some ds =>
        simp only [ed, Mi.opt] at h
        have go : ∀ (p : Addr) (vs : List V), (SqL X.K H1 p vs ∨ SqT X.K H1 p vs) → DpAll KD C1 vs ds → v = .ref p → ∃ p ys, [v] = [V.ref p] ∧ (SqL X.K H1 p ys ∨ SqT X.K H1 p ys) ∧ ∀ l, H1 l = none → Q (.ref l) (upd H1 l (.lst ys)) := fun p vs hs hd e => by
          subst e
          refine ⟨p, vs, rfl, hs, fun l hl => ?_⟩
          obtain ⟨R', hn, hA⟩ := newE (o := .lst vs) R1 hl
          obtain ⟨n1, n2, n3⟩ := hA l List.mem_cons_self
          exact h l vs C1 _ s1 R' hn upd_same hd n2 n1 n3
        cases dv with
        | @lst p vs ds hs hd =>
          cases ed
          exact go p vs (.inl (upL (R1.ch.seq hs))) hd rfl
        | @tup p vs ds hs hd =>
          cases ed
          exact go p vs (.inr (upT (sameT R1.ch hs))) hd rfl
        | _ => cases ed
/-! ### xs.pop(), xs.pop(k) -/
def mPop (i : Nat) : Mi PyData := fun r => match hotOf r i with
  | some xs => (match xs[xs.length - 1]? with
    | some d => .ok d (r.set i (some (.hot xs.dropLast)))
    | none => .bad)
  | none => .bad
theorem dpaDL {K : PySem.W.Frag} {C : Hp} : ∀ {vs : List V} {ds : List PyData}, DpAll K C vs ds → DpAll K C vs.dropLast ds.dropLast
  | _, _, .nil => .nil
  | _, _, .cons h .nil => .nil
  | _, _, .cons h (.cons g t) => .cons h (dpaDL (.cons g t))
theorem dpaEr {K : PySem.W.Frag} {C : Hp} : ∀ {vs : List V} {ds : List PyData} (k : Nat), DpAll K C vs ds → DpAll K C (vs.eraseIdx k) (ds.eraseIdx k)
  | _, _, _, .nil => .nil
  | _, _, 0, .cons h t => t
  | _, _, k + 1, .cons h t => .cons h (dpaEr k t)
theorem dePop (hv : PE X (.Name x p1) (tVar i)) (hb : attributeBase (.Name x p1) "pop" X.env (eval (.Name x p1) X.env) = eval (.Name x p1) X.env := by rfl) (hl : (p2.endLine == pos.line) = true := by rfl) : DE X W P (mPop i) (.Call (.Attribute (.Name x p1) "pop" p2) [] [] pos) := fun F hF =>
  peImp (pe_bm0 (r := rPop) PySem.F.plainAttrs_list PySem.F.slot_list_pop PySem.F.type_list_pop mt_pop hv hb hl) fun σ H Q ⟨C, ρ, R, h⟩ => by
    unfold mPop at h
    cases e1 : hotOf ρ i with
    | none =>
      rw [e1] at h
      exact h.elim
    | some xs =>
      rw [e1] at h
      simp only at h
      obtain ⟨ad, vs, ea, g1, g2, g3⟩ := R.hotAt (hotOf_eq e1)
      cases e2 : xs[xs.length - 1]? with
      | none =>
        simp only [e2] at h
        exact h.elim
      | some d =>
        simp only [e2] at h
        obtain ⟨v, f1, f2⟩ := dpaGet g3 e2
        refine ⟨.ref ad, ea, .inl ⟨rfl, vs, SqL.of g2⟩, ad, vs, v, rfl, rfl, g2, by rw [dpaLen g3]; exact f1, ?_⟩
        exact poRet h (R.write (hotOf_eq e1) ea (dpaDL g3)) f2
def mPopAt (i : Nat) (mk : Mi PyData) : Mi PyData := fun r => match hotOf r i with
  | some _ => (mk.bind fun k r' => match hotOf r' i, k with
    | some xs, .int n => if 0 ≤ n ∧ n < (xs.length : Int) ∧ n ≤ 16777216 then (match xs[n.toNat]? with
      | some d => .ok d (r'.set i (some (.hot (xs.eraseIdx n.toNat))))
      | none => .bad) else .bad
    | _, _ => .bad) r
  | none => .bad
theorem dePopAt (hv : PE X (.Name x p1) (tVar i)) (hk : DE X W P mk e) (hb : attributeBase (.Name x p1) "pop" X.env (eval (.Name x p1) X.env) = eval (.Name x p1) X.env := by rfl) (hl : (p2.endLine == pos.line) = true := by rfl)
    (he : starEach [e] X.env = (false, eval e X.env) :: starEach [] X.env := by rfl)
    (hfw : ((backTo pos (starEach [e] X.env)).all (fun x => !x.1) && (backToKw pos (keywordEach [] X.env)).all (fun x => x.1.isSome) && decide (([e] : List Expr).length + ([] : List Keyword).length + (if ([] : List Keyword).isEmpty then 0 else 1) < 30)) = true := by rfl)
    (hpl : (backTo pos (starEach [] X.env)).any (·.1) = false := by rfl) : DE X W P (mPopAt i mk) (.Call (.Attribute (.Name x p1) "pop" p2) [e] [] pos) := fun F hF =>
  peImp (pe_bm (r := rPopAt) PySem.F.plainAttrs_list PySem.F.slot_list_pop PySem.F.type_list_pop mt_popAt hv (pa_cons (hk F hF) pa_nil he) hb hfw hl he hpl) fun σ H Q ⟨C, ρ, R, h⟩ => by
    unfold mPopAt at h
    cases e1 : hotOf ρ i with
    | none =>
      rw [e1] at h
      exact h.elim
    | some xs0 =>
      rw [e1] at h
      obtain ⟨ad, vs, ea, g1, g2, g3⟩ := R.hotAt (hotOf_eq e1)
      refine ⟨.ref ad, ea, .inl ⟨rfl, vs, SqL.of g2⟩, C, ρ, R, (poBind (Rel1 := RelD X) h).imp fun kv H2 ⟨C2, ρ2, k, s2, R2, d2, h2⟩ => ?_⟩
      cases e2 : hotOf ρ2 i with
      | none =>
        simp only [e2] at h2
        exact h2.elim
      | some xs =>
        cases d2 with
        | int n =>
          simp only [e2] at h2
          by_cases hc : 0 ≤ n ∧ n < (xs.length : Int) ∧ n ≤ 16777216
          · rw [if_pos hc] at h2
            cases e3 : xs[n.toNat]? with
            | none =>
              simp only [e3] at h2
              exact h2.elim
            | some d =>
              simp only [e3] at h2
              obtain ⟨ad', us, ea', f1, f2, f3⟩ := R2.hotAt (hotOf_eq e2)
              rw [ea] at ea'
              cases ea'
              obtain ⟨v, f4, f5⟩ := dpaGet f3 e3
              refine ⟨ad, us, n, n.toNat, v, rfl, rfl, f2, by omega, by omega, ?_, f4, ?_⟩
              · rw [dpaLen f3]
                unfold seqIndex?
                have h1 : ¬ n < 0 := by omega
                simp only [h1, if_false]
                rw [if_pos (by simp; omega)]
              · exact poRet h2 (R2.write (hotOf_eq e2) ea (dpaEr _ f3)) f5
          · rw [if_neg hc] at h2
            exact h2.elim
        | _ =>
          simp only [e2] at h2
          all_goals exact h2.elim
/-! ### xs.extend(a new list) -/
def sExtF (i : Nat) (m : Mi (List PyData)) : Rho → Fl := fun r => match hotOf r i with
  | some _ => sBind m (fun ds r' => match hotOf r' i with
    | some xs => if xs.length + ds.length ≤ 16777216 then .nx (r'.set i (some (.hot (xs ++ ds)))) else .bad
    | none => .bad) r
  | none => .bad
theorem dsExtF {m : Mi (List PyData)} (h : DF X W P m e)
    (hm : ∀ (t : TA), PA X [e] t → PE X (.Call (.Attribute (.Name x p1) "extend" p2) [e] [] p3) (tBM X.K "list" rExtend (tVar i) t)) (hs : swapsWith (.Call (.Attribute (.Name x p1) "extend" p2) [e] [] p3) none pos.line X.env = pure false := by rfl)
    (he : starEach [e] X.env = (false, eval e X.env) :: starEach [] X.env := by rfl) : DS X W P (sExtF i m) (.Expr (.Call (.Attribute (.Name x p1) "extend" p2) [e] [] p3) pos) :=
  fun F hF => psImp (ps_expr (hm _ (pa_cons (h F hF) pa_nil he)) hs) fun D σ H ⟨C, ρ, R, p⟩ => by
    unfold sExtF at p
    cases e1 : hotOf ρ i with
    | none =>
      rw [e1] at p
      exact p.elim
    | some xs0 =>
      rw [e1] at p
      obtain ⟨ad, vs, ea, g1, g2, g3⟩ := R.hotAt (hotOf_eq e1)
      refine ⟨.ref ad, ea, .inl ⟨rfl, vs, SqL.of g2⟩, C, ρ, R, ?_⟩
      unfold sBind at p
      cases em : m ρ with
      | ex c w r =>
        rw [em] at p
        exact p σ
      | bad =>
        rw [em] at p
        exact p
      | ok ds r =>
        rw [em] at p
        intro q ws C' H' s1 R1 hn hh hd hx h0 hg
        simp only at p
        cases e3 : hotOf r i with
        | none =>
          rw [e3] at p
          exact p.elim
        | some xs =>
          rw [e3] at p
          simp only at p
          by_cases hl : xs.length + ds.length ≤ 16777216
          · rw [if_pos hl] at p
            obtain ⟨ad', us, ea', f1, f2, f3⟩ := R1.hotAt (hotOf_eq e3)
            rw [ea] at ea'
            cases ea'
            refine ⟨ad, q, us, ws, rfl, rfl, f2, hh, by rw [dpaLen f3, dpaLen hd, sizeLine_eq]; exact hl, ?_⟩
            exact p σ C' _ s1 (R1.write (hotOf_eq e3) ea (dpaApp f3 hd))
          · rw [if_neg hl] at p
            exact p.elim
/-! ### a slot's list looked at in a comparison -/
def seqAtV (r : Rho) (i : Nat) : Option PyData := match r[i]? with
  | some (some (.hot xs)) => some (.list xs)
  | some (some (.val d)) => some d
  | _ => none
/-- a slot's list as data, for now -/
theorem RE.look {F : Fr0} {C H : Hp} {σ : L2.St} {ρ : Rho} (R : RE KD F C σ H ρ) {i : Nat} {d : PyData} (h : seqAtV ρ i = some d) : ∃ v C', σ[i]? = some (some v) ∧ Same C C' ∧ Same C' H ∧ Dp KD C' v d := by
  unfold seqAtV at h
  split at h
  · rename_i xs e
    cases h
    obtain ⟨ad, vs, ea, g1, g2, g3⟩ := R.hotAt e
    have s1 : Same C (coolC C H [ad]) := coolC_same fun b hb => by
      cases List.mem_singleton.mp hb
      exact g1
    exact ⟨.ref ad, _, ea, s1, coolC_same2 R.ch, .lst (.inl (.inl (by rw [coolC_in List.mem_cons_self]; exact g2))) (dpaMono s1 g3)⟩
  · rename_i d' e
    cases h
    obtain ⟨v, A, e1, _, e2⟩ := R.sl i _ e
    exact ⟨v, C, e1, Same.refl _, R.ch, e2⟩
  · cases h
theorem extBack {F : Fr0} {C C' H C2 H2 : Hp} (s0 : Same C H) (x : Ext C' H C2 H2) : Ext C H C H2 := ⟨Same.refl _, s0.trans x.hh, x.hh, fun _ _ _ z => z, fun z => z⟩
def mTstR (f : PyData → PyData → Option Bool) (ma : Mi PyData) (i : Nat) : Mi Bool := ma.bind fun a r => match seqAtV r i with
  | some d => (match f a d with
    | some k => .ok k r
    | none => .bad)
  | none => .bad
theorem dtCmpR {op : CmpOp} {f : PyData → PyData → Option Bool} (ho : OpR X (compareOp op) (rD (fB f))) (ha : DE X W P ma a) (hv : PE X (.Name x p1) (tVar i)) (hm : behindInMarks op (.Name x p1) = false := by rfl) : DT X W P (mTstR f ma i) (.Compare a [op] [.Name x p1] pos) :=
  fun F hF => ptImp (pt_cmpR ho (ha F hF) hv hm) fun σ H Q ⟨C, ρ, R, h⟩ => by
    refine ⟨C, ρ, R, (poBind (Rel1 := RelD X) h).imp fun xv H1 ⟨C1, ρ1, ad, s1, R1, d1, h1⟩ => ?_⟩
    cases e1 : seqAtV ρ1 i with
    | none =>
      simp only [e1] at h1
      exact h1.elim
    | some d =>
      simp only [e1] at h1
      obtain ⟨v, C2, ev, s2, s3, dv⟩ := R1.look e1
      cases e2 : f ad d with
      | none =>
        simp only [e2] at h1
        exact h1.elim
      | some k =>
        simp only [e2] at h1
        refine ⟨v, ev, C2, ad, d, .bool k, by simp [fB, e2], s3, dpMono s2 d1, dv, fun z C' H' ex dz => ?_⟩
        cases dz
        exact ⟨k, rfl, h1 k C1 H' (Same.refl _) (R1.grow (extBack (F := F) R1.ch ex)) rfl⟩
def mTstL (f : PyData → PyData → Option Bool) (i : Nat) (mb : Mi PyData) : Mi Bool := fun r => match seqAtV r i with
  | some _ => (mb.bind fun b r' => match seqAtV r' i with
    | some d => (match f d b with
      | some k => .ok k r'
      | none => .bad)
    | none => .bad) r
  | none => .bad
theorem seqAtV_st {F : Fr0} {C H C' H' : Hp} {σ : L2.St} {ρ ρ' : Rho} (R : RE KD F C σ H ρ) (R' : RE KD F C' σ H' ρ') {i : Nat} {d d' : PyData} (h : seqAtV ρ i = some d) (h' : seqAtV ρ' i = some d') : True := trivial
theorem dtCmpL {op : CmpOp} {f : PyData → PyData → Option Bool} (ho : OpR X (compareOp op) (rD (fB f))) (hv : PE X (.Name x p1) (tVar i)) (hb : DE X W P mb b) (hm : behindInMarks op b = false) : DT X W P (mTstL f i mb) (.Compare (.Name x p1) [op] [b] pos) :=
  fun F hF => ptImp (pt_cmpR ho hv (hb F hF) hm) fun σ H Q ⟨C, ρ, R, h⟩ => by
    unfold mTstL at h
    cases e0 : seqAtV ρ i with
    | none =>
      rw [e0] at h
      exact h.elim
    | some d0 =>
      rw [e0] at h
      obtain ⟨v0, _, ev0, _⟩ := R.look e0
      refine ⟨v0, ev0, C, ρ, R, (poBind (Rel1 := RelD X) h).imp fun yv H1 ⟨C1, ρ1, bd, s1, R1, d1, h1⟩ => ?_⟩
      cases e1 : seqAtV ρ1 i with
      | none =>
        simp only [e1] at h1
        exact h1.elim
      | some d =>
        simp only [e1] at h1
        obtain ⟨v, C2, ev, s2, s3, dv⟩ := R1.look e1
        rw [ev0] at ev
        cases ev
        cases e2 : f d bd with
        | none =>
          simp only [e2] at h1
          exact h1.elim
        | some k =>
          simp only [e2] at h1
          refine ⟨C2, d, bd, .bool k, by simp [fB, e2], s3, dv, dpMono s2 d1, fun z C' H' ex dz => ?_⟩
          cases dz
          exact ⟨k, rfl, h1 k C1 H' (Same.refl _) (R1.grow (extBack (F := F) R1.ch ex)) rfl⟩
/-! ### t.index(k) -/
def idxD : List PyData → PyData → Option Nat
  | [], _ => none
  | d :: ds, k => if PyData.eqv d k then some 0 else (idxD ds k).map (· + 1)
theorem idxD_spec : ∀ {ds : List PyData} {k : PyData} {j : Nat}, idxD ds k = some j → (∃ z, ds[j]? = some z ∧ PyData.eqv z k = true) ∧ ∀ (m : Nat) (z : PyData), m < j → ds[m]? = some z → PyData.eqv z k = false
  | [], _, _, h => by cases h
  | d :: ds, k, j, h => by
    unfold idxD at h
    by_cases hd : PyData.eqv d k = true
    · rw [if_pos hd] at h
      cases h
      exact ⟨⟨d, rfl, hd⟩, fun m z hm => by omega⟩
    · rw [if_neg hd] at h
      obtain ⟨j', e, rfl⟩ := Option.map_eq_some_iff.mp h
      obtain ⟨⟨z, h1, h2⟩, h3⟩ := idxD_spec e
      refine ⟨⟨z, by simpa using h1, h2⟩, fun m z hm hz => ?_⟩
      cases m with
      | zero =>
        have e : d = z := by simpa using hz
        subst e
        simpa using hd
      | succ m => exact h3 m z (by omega) (by simpa using hz)
def rIndexT (K : PySem.W.Frag) : V → List V → Hp → VK → Prop := fun x xs H Q => ∃ (a : Addr) (y : V) (d : PyData) (ds : List PyData) (j : Nat), x = V.ref a ∧ xs = [y] ∧ Dp K H (V.ref a) (.tuple ds) ∧ Dp K H y d ∧
  SeqAt.shaped (.tuple ds) = true ∧ SeqAt.shaped d = true ∧ idxD ds d = some j ∧ Q (.int (j : Nat)) H
theorem mt_indexT (hu : X.A.units + 65 < cLine) : MtR X "tuple.index" (rIndexT X.K) := by
  intro pins s σ H x xs v us Q I rx rxs h
  obtain ⟨a, y, d, ds, j, rfl, rfl, hl, hy, sl, sd, hj0, q⟩ := h
  obtain ⟨⟨z, hz, hzj⟩, hno⟩ := idxD_spec hj0
  cases rx
  cases rxs with
  | cons ry rt =>
    rename_i uy ut
    cases rt
    obtain ⟨bs, r1⟩ := Dp.reads I d y uy hy ry
    have hxs : PyData.canLayAll0 ds = true := SeqAt.canLay_of_shaped sl
    have hroom : X.A.units + 1 + min (PyData.depthAll ds) d.depth < cLine := room_in_shaped sd hu
    cases hl with
    | tup hs ha =>
      obtain ⟨its, rv, ⟨⟨cls, dd, data, sls⟩, ho, hc, n, hdt⟩, hlen⟩ := I.tuple hs
      simp only at hc hdt
      subst hc hdt
      obtain ⟨as, h4⟩ := Dp.readsAll I ds _ its ha rv
      have hn : its.length = ds.length := SeqAt.ReadsAll.length ds its as h4
      have hmap : its.map (SeqAt.readOf s.heap) = ds := SeqAt.readsAll_map ds its as hxs h4
      have hvl := rv.length
      obtain ⟨hjd, _⟩ := List.getElem?_eq_some_iff.mp hz
      have hjl : j < its.length := by omega
      have hj : j < its.toArray.size := by simpa using hjl
      have at_ : ∀ (m : Nat) (hm : m < its.toArray.size) (z' : PyData), ds[m]? = some z' → SeqAt.readOf s.heap its.toArray[m] = z' := by
        intro m hm z' hz'
        have hml : m < its.length := by simpa using hm
        rw [← hmap, List.getElem?_map, List.getElem?_eq_getElem hml] at hz'
        have e1 : SeqAt.readOf s.heap its[m] = z' := Option.some.inj (show some (SeqAt.readOf s.heap its[m]) = some z' from hz')
        simpa using e1
      refine call_meets PySem.F.slot_tuple_index ⟨_, ho, rfl⟩ PySem.F.entry_tuple_index (PySem.F.args_tuple_index_2 _ _)
        (TI.tuple_indexAt a its.toArray n dd sls uy (fun u => PyData.eqv (SeqAt.readOf s.heap u) d) j hj ?_ ?_) ⟨ho, SeqAt.items_eqAt (vs := its.toArray) (show ReadsAll s.heap its.toArray.toList ds as from h4) r1 hxs (SeqAt.canLay_of_shaped sd) hroom, ?_⟩
      · show PyData.eqv (SeqAt.readOf s.heap its.toArray[j]) d = true
        rw [at_ j hj z hz]
        exact hzj
      · intro m hm hmj
        have hmd : m < ds.length := by omega
        have hz' : ds[m]? = some ds[m] := List.getElem?_eq_getElem hmd
        show PyData.eqv (SeqAt.readOf s.heap its.toArray[m]) d = false
        rw [at_ m hm _ hz']
        exact hno m _ hmj hz'
      · exact ⟨.int (j : Nat), H, I.tok _, ⟨_, rfl⟩, q⟩
def mTIdx (ma mb : Mi PyData) : Mi PyData := ma.bind fun d => match d with
  | .tuple ds => if isMv ds = true then mb.bind fun k => if SeqAt.shaped (.tuple ds) = true ∧ SeqAt.shaped k = true then Mi.opt ((idxD ds k).map fun (j : Nat) => .int j) else fun _ => .bad else fun _ => .bad
  | _ => fun _ => .bad
/-- a method of a tuple whose object has no attributes -/
def tBMB (r : V → List V → Hp → VK → Prop) (to : TE) (t : TA) : TE := fun σ H Q => to σ H fun x H1 => (∃ a o xs, x = .ref a ∧ H1 a = some (.frz o (.tup xs)) ∧ o.dict = none) ∧ t σ H1 fun xs H2 => r x xs H2 Q
theorem pe_bmB {o : Expr} {to : TE} {t : TA} {name : Str} {apos cpos : Pos} {id : String} {r : V → List V → Hp → VK → Prop} (pa : PlainAttrs "tuple") (slot : Slot "tuple" name id) (hty : typeOf (.builtin id) = pure (.type "method_descriptor")) (hm : MtR X id r) (ho : PE X o to) (ha : PA X (e :: es) t)
    (hbase : attributeBase o name X.env (eval o X.env) = eval o X.env := by rfl)
    (hfew : ((backTo cpos (starEach (e :: es) X.env)).all (fun x => !x.1) && (backToKw cpos (keywordEach [] X.env)).all (fun x => x.1.isSome)
      && decide ((e :: es).length + ([] : List Keyword).length + (if ([] : List Keyword).isEmpty then 0 else 1) < 30)) = true := by rfl)
    (hline : (apos.endLine == cpos.line) = true := by rfl) (hs : starEach (e :: es) X.env = (false, eval e X.env) :: starEach es X.env := by rfl) (hplain : (backTo cpos (starEach es X.env)).any (·.1) = false := by rfl) :
    PE X (.Call (.Attribute o name apos) (e :: es) [] cpos) (tBMB r to t) := by
  refine ⟨fun pins s σ H Q I h => ?_⟩
  refine wpAny_Call_method_late hbase hfew hline rfl (thn (ho.run pins s σ H _ I h) fun v s1 ⟨x, H1, I1, r1, ty, q1⟩ => ?_)
  obtain ⟨a, ob, xs, rfl, hf, hd⟩ := ty
  cases r1
  obtain ⟨g1, _, its, rv, ⟨o', ho', hc', _⟩⟩ := I1.hok a _ hf
  rw [g1] at ho'
  cases ho'
  refine ⟨"tuple", id, pa, slot, hty, ⟨ob, g1, hc'⟩, fun b hb => ?_, ?_⟩
  · cases hb
    exact ⟨ob, g1, hd⟩
  have hA := ha.run cpos pins s1 σ H1 _ I1 q1
  rw [hs] at hA ⊢
  refine Calls.callWith_builtin (by show (false || (backTo cpos (starEach es X.env)).any (·.1)) = false; rw [hplain] <;> rfl) (Calls.evalArgs_plain ?_)
  exact thn hA fun us s2 ⟨vs, H2, I2, r2, q2⟩ => hm pins s2 σ H2 (.ref a) vs (.ref a) us Q I2 rfl r2 q2
/-- a tuple of pairs is one of these -/
theorem bareOf {C H : Hp} {v : V} {ds : List PyData} (hC : ColdOk C) (s : Same C H) (h : Dp KD C v (.tuple ds)) (hm : isMv ds = true) : ∃ a o xs, v = .ref a ∧ H a = some (.frz o (.tup xs)) ∧ o.dict = none := by
  cases h with
  | @tup a xs _ hs hd =>
    rcases hs with (h | ⟨o, h⟩) | ⟨o, its, n, hk, _⟩
    · exact absurd (hC.2.1 a xs h) (npNot hd hm)
    · exact ⟨a, o, xs, rfl, s _ _ h, hC.2.2 a o xs h⟩
    · cases hk
theorem deTIdx (hu : X.A.units + 65 < cLine) (ha : DE X W P ma a) (hb : DE X W P mb b) (hbase : attributeBase a "index" X.env (eval a X.env) = eval a X.env := by rfl) (hl : (p2.endLine == pos.line) = true := by rfl)
    (he : starEach [b] X.env = (false, eval b X.env) :: starEach [] X.env := by rfl)
    (hfw : ((backTo pos (starEach [b] X.env)).all (fun x => !x.1) && (backToKw pos (keywordEach [] X.env)).all (fun x => x.1.isSome) && decide (([b] : List Expr).length + ([] : List Keyword).length + (if ([] : List Keyword).isEmpty then 0 else 1) < 30)) = true := by rfl)
    (hpl : (backTo pos (starEach [] X.env)).any (·.1) = false := by rfl) : DE X W P (mTIdx ma mb) (.Call (.Attribute a "index" p2) [b] [] pos) := fun F hF =>
  peImp (pe_bmB (r := rIndexT X.K) PySem.F.plainAttrs_tuple PySem.F.slot_tuple_index PySem.F.type_tuple_index (mt_indexT hu) (ha F hF) (pa_cons (hb F hF) pa_nil he) hbase hfw hl he hpl) fun σ H Q ⟨C, ρ, R, h⟩ =>
    ⟨C, ρ, R, (poBind h).imp fun xv H1 ⟨C1, ρ1, d, s1, R1, d1, h1⟩ => by
      cases d with
      | tuple ds =>
        simp only at h1
        by_cases hm : isMv ds = true
        · rw [if_pos hm] at h1
          refine ⟨bareOf R1.tabC R1.ch d1 hm, C1, ρ1, R1, (poBind h1).imp fun yv H2 ⟨C2, ρ2, k, s2, R2, d2, h2⟩ => ?_⟩
          by_cases hc : SeqAt.shaped (.tuple ds) = true ∧ SeqAt.shaped k = true
          · rw [if_pos hc] at h2
            cases ei : idxD ds k with
            | none =>
              simp only [ei, Option.map_none, Mi.opt] at h2
              exact h2.elim
            | some j =>
              simp only [ei, Option.map_some, Mi.opt] at h2
              obtain ⟨p, _, _, rfl, _⟩ := bareOf R1.tabC R1.ch d1 hm
              exact ⟨p, yv, k, ds, j, rfl, rfl, dpUp (dpMono (s2.trans R2.ch) d1), dpUp (dpMono R2.ch d2), hc.1, hc.2, ei, poRet h2 R2 (.int _)⟩
          · rw [if_neg hc] at h2
            exact h2.elim
        · rw [if_neg hm] at h1
          exact h1.elim
      | _ => exact h1.elim⟩
end
end Dn
set_option maxHeartbeats 4000000
namespace Dn
open PySem PySem.Spec PyProof.Rows L2

/-! ## guards of any kind -/
abbrev Fr0.gds (F : Fr0) (g : List (Addr × HO)) : Fr0 := { F with gd := g }
section
variable {K : PySem.W.Frag} {F : Fr0} {C C' H H' : Hp} {σ : L2.St} {ρ : Rho}
theorem RE.gdSub {g : List (Addr × HO)} (R : RE K F C σ H ρ) (h : ∀ q ∈ g, q ∈ F.gd) : RE K (F.gds g) C σ H ρ :=
  ⟨R.c0, R.ch, R.fr, R.sl, R.inj, R.own, R.pin, R.len, fun q hq => R.gds q (h q hq), R.tabs, R.tabC, R.raw, R.bb⟩
theorem RE.gdAdd {b : Addr} {o : HO} (R : RE K F C σ H ρ) (h1 : C b = none) (h2 : H b = some o) (h3 : F.H0 b = none) (h4 : ∀ j, ¬ Own K C σ H ρ j b) (h5 : ∀ ps, o ≠ .tbl ps) : RE K (F.gds ((b, o) :: F.gd)) C σ H ρ :=
  ⟨R.c0, R.ch, R.fr, R.sl, R.inj, R.own, R.pin, R.len, fun q hq => by
    rcases List.mem_cons.mp hq with rfl | hq
    · exact ⟨h1, h2, h3, h4, h5⟩
    · exact R.gds q hq, R.tabs, R.tabC, R.raw, R.bb⟩
def gdOf (H : Hp) (A : List Addr) : List (Addr × HO) := A.filterMap fun b => (H b).map fun o => (b, o)
theorem gdOf_mem {H : Hp} {A : List Addr} {q : Addr × HO} : q ∈ gdOf H A ↔ q.1 ∈ A ∧ H q.1 = some q.2 := by
  unfold gdOf
  rw [List.mem_filterMap]
  constructor
  · rintro ⟨b, hb, e⟩
    obtain ⟨o, e1, rfl⟩ := Option.map_eq_some_iff.mp e
    exact ⟨hb, e1⟩
  · rintro ⟨h1, h2⟩
    exact ⟨q.1, h1, by rw [h2]; rfl⟩
theorem RE.gdAll {A : List Addr} (R : RE K F C σ H ρ) {v : V} {e : Ent} (hE : EntAt K C H v e A) (hA : ∀ b ∈ A, F.H0 b = none ∧ (∀ j, ¬ Own K C σ H ρ j b) ∧ ∀ q ∈ F.gd, q.1 ≠ b) : RE K (F.gds (gdOf H A ++ F.gd)) C σ H ρ :=
  ⟨R.c0, R.ch, R.fr, R.sl, R.inj, R.own, R.pin, R.len, fun q hq => by
    rcases List.mem_append.mp hq with hq | hq
    · obtain ⟨h1, h2⟩ := gdOf_mem.mp hq
      obtain ⟨h3, o, h4, h5⟩ := hE.mem q.1 h1
      rw [h2] at h4
      cases h4
      exact ⟨h3, h2, (hA _ h1).1, (hA _ h1).2.1, h5⟩
    · exact R.gds q hq, R.tabs, R.tabC, R.raw, R.bb⟩
/-- a guarded thing is as it was -/
theorem RE.gdBack {A : List Addr} {g : List (Addr × HO)} {v : V} {e : Ent} {σ' : L2.St} {ρ' : Rho} (R' : RE K (F.gds (gdOf H A ++ g)) C' σ' H' ρ') (s : Same C C') (hE : EntAt K C H v e A) : EntAt K C' H' v e A ∧ ∀ b ∈ A, F.H0 b = none ∧ ∀ j, ¬ Own K C' σ' H' ρ' j b := by
  have at_ : ∀ b ∈ A, C' b = none ∧ H' b = H b ∧ F.H0 b = none ∧ ∀ j, ¬ Own K C' σ' H' ρ' j b := fun b hb => by
    obtain ⟨_, o, h4, _⟩ := hE.mem b hb
    obtain ⟨g1, g2, g3, g4, _⟩ := R'.gds (b, o) (List.mem_append_left _ (gdOf_mem.mpr ⟨hb, h4⟩))
    exact ⟨g1, g2.trans h4.symm, g3, g4⟩
  exact ⟨hE.loc s fun b hb => ⟨(at_ b hb).1, (at_ b hb).2.1⟩, fun b hb => ⟨(at_ b hb).2.2.1, (at_ b hb).2.2.2⟩⟩
theorem Own.ofSetE {i j : Nat} {v : V} {e : Ent} {A : List Addr} {b : Addr} (hE : EntAt K C H v e A) (h : Own K C (σ.set i (some v)) H (ρ.set i (some e)) j b) : Own K C σ H ρ j b ∨ b ∈ A := by
  obtain ⟨e', v', A', h1, h2, h3, h4⟩ := h
  by_cases hij : i = j
  · subst hij
    by_cases hl : i < ρ.length
    · rw [List.getElem?_set_self hl] at h1
      cases h1
      by_cases hl2 : i < σ.length
      · rw [List.getElem?_set_self hl2] at h2
        cases h2
        have z := hE.det h3
        subst z
        exact .inr h4
      · rw [List.getElem?_eq_none (by rw [List.length_set]; omega)] at h2
        cases h2
    · rw [List.getElem?_eq_none (by rw [List.length_set]; omega)] at h1
      cases h1
  · rw [List.getElem?_set_ne hij] at h1 h2
    exact .inl ⟨e', v', A', h1, h2, h3, h4⟩
end
section
variable {X : Cx} {W : WX} {P : Pn} {a b e : Expr} {ma mk : Mi PyData} {i j : Nat} {x y : Str} {px py pt pt2 pos p1 p2 p3 : Pos} {kt k2 : Nat}
def sParVN (i j : Nat) (ma : Mi PyData) (mb : Mi Ent) : Rho → Fl := sBind ma fun d => sBind mb fun en r => .nx ((r.set i (some (.val d))).set j (some en))
theorem dsParVN {mb : Mi Ent} (hc : X.calm = true) (hN : X.N.Nodup) (hi : X.N[i]? = some x) (hj : X.N[j]? = some y) (hij : i ≠ j) (hx : X.env.scope.names.lookup x = some .local) (hy : X.env.scope.names.lookup y = some .local)
    (hip : i ∉ P.ps) (hjp : j ∉ P.ps) (ha : DE X W P ma a) (hb : DN X W P mb b)
    (hw : swappedStores [.Tuple [.Name x px, .Name y py] kt pt] (.Tuple [a, b] k2 pt2) X.env = pure (some [x, y])) (hs : swapsWithSole [.Tuple [.Name x px, .Name y py] kt pt] (.Tuple [a, b] k2 pt2) pos.line X.env = pure false := by rfl)
    (hs1 : starEach [a, b] X.env = (false, eval a X.env) :: starEach [b] X.env := by rfl) (hs2 : starEach [b] X.env = (false, eval b X.env) :: starEach [] X.env := by rfl) :
    DS X W P (sParVN i j ma mb) (.Assign [.Tuple [.Name x px, .Name y py] kt pt] (.Tuple [a, b] k2 pt2) pos) := fun F hF =>
  psImp (ps_par hc hN hi hj hij hx hy (pa_cons (ha F hF) (pa_cons (hb F hF) pa_nil hs2) hs1) hw hs) fun D σ H ⟨C, ρ, R, p⟩ => ⟨C, ρ, R, (posBind p).imp fun v H1 ⟨C1, ρ1, d, s1, R1, d1, h1⟩ => ⟨C1, ρ1, R1, by
    unfold sBind at h1
    cases e : mb ρ1 with
    | ok en r =>
      rw [e] at h1
      intro w A C' H' s2 R2 hE hh hA
      refine ⟨_, _, rfl, h1 _ C' H' s2 ((R2.setVal (notPin hF hip) (dpMono s2 d1)).setE (notPin hF hjp) hE fun c hc => ⟨(hA c hc).1, fun k z => (hA c hc).2.1 k (Own.ofSetVal z), (hA c hc).2.2⟩)⟩
    | ex c w r =>
      rw [e] at h1
      exact h1 σ
    | bad =>
      rw [e] at h1
      exact h1⟩⟩
def sParNN (i j : Nat) (ma mb : Mi Ent) : Rho → Fl := sBind ma fun en => sBind mb fun en2 r => .nx ((r.set i (some en)).set j (some en2))
theorem dsParNN {ma mb : Mi Ent} (hc : X.calm = true) (hN : X.N.Nodup) (hi : X.N[i]? = some x) (hj : X.N[j]? = some y) (hij : i ≠ j) (hx : X.env.scope.names.lookup x = some .local) (hy : X.env.scope.names.lookup y = some .local)
    (hip : i ∉ P.ps) (hjp : j ∉ P.ps) (ha : DN X W P ma a) (hb : DN X W P mb b)
    (hw : swappedStores [.Tuple [.Name x px, .Name y py] kt pt] (.Tuple [a, b] k2 pt2) X.env = pure (some [x, y])) (hs : swapsWithSole [.Tuple [.Name x px, .Name y py] kt pt] (.Tuple [a, b] k2 pt2) pos.line X.env = pure false := by rfl)
    (hs1 : starEach [a, b] X.env = (false, eval a X.env) :: starEach [b] X.env := by rfl) (hs2 : starEach [b] X.env = (false, eval b X.env) :: starEach [] X.env := by rfl)
    (hPk : ∀ (F : Fr0) (g : List (Addr × HO)), P.ok F → P.ok (F.gds g) := by exact fun _ _ h => h) :
    DS X W P (sParNN i j ma mb) (.Assign [.Tuple [.Name x px, .Name y py] kt pt] (.Tuple [a, b] k2 pt2) pos) := fun F hF => by
  let tb : TE := fun σ H Q => ∃ F', FOk F' P ∧ tE X F' W mb σ H Q
  have hb' : PE X b tb := ⟨fun pins s σ H Q I ⟨F', hF', h⟩ => (hb F' hF').run pins s σ H Q I h⟩
  refine psImp (ps_par hc hN hi hj hij hx hy (pa_cons (ha F hF) (pa_cons hb' pa_nil hs2) hs1) hw hs) fun D σ H ⟨C, ρ, R, p⟩ => ⟨C, ρ, R, ?_⟩
  unfold sParNN sBind at p
  cases e : ma ρ with
  | ex c w r =>
    rw [e] at p
    exact p σ
  | bad =>
    rw [e] at p
    exact p
  | ok en r =>
    rw [e] at p
    intro v A C1 H1 s1 R1 hE hh hA
    have R2 := R1.gdAll hE hA
    refine ⟨F.gds (gdOf H1 A ++ F.gd), ⟨hF.1, hF.2.1, hPk _ _ hF.2.2⟩, C1, r, R2, ?_⟩
    simp only at p
    cases e2 : mb r with
    | ex c w r2 =>
      rw [e2] at p
      exact fun A' d v' C' H' hm sc R' hd dv => p σ A' d v' C' H' hm (s1.trans sc) (R'.gdSub fun q hq => List.mem_append_right _ hq) hd dv
    | bad =>
      rw [e2] at p
      exact p
    | ok en2 r2 =>
      rw [e2] at p
      simp only at p
      intro v2 A2 C2 H2 s2 R3 hE2 hh2 hA2
      obtain ⟨k1, k2⟩ := RE.gdBack (F := F) R3 s2 hE
      have R4 : RE KD F C2 σ H2 r2 := R3.gdSub (F := F.gds (gdOf H1 A ++ F.gd)) fun q hq => List.mem_append_right _ hq
      refine ⟨_, _, rfl, p _ C2 H2 (s1.trans s2) ((R4.setE (notPin hF hip) k1 fun c hc => ⟨(k2 c hc).1, (k2 c hc).2, (hA c hc).2.2⟩).setE (notPin hF hjp) hE2 fun c hc => ⟨(hA2 c hc).1, fun k z => ?_, fun q hq => (hA2 c hc).2.2 q (List.mem_append_right _ hq)⟩)⟩
      rcases Own.ofSetE k1 z with z | z
      · exact (hA2 c hc).2.1 k z
      · obtain ⟨_, o, h4, _⟩ := hE.mem c z
        exact (hA2 c hc).2.2 (c, o) (List.mem_append_left _ (gdOf_mem.mpr ⟨z, h4⟩)) rfl
/-! ### sorted(d) -/
def keysI {α : Type} (kvs : List (PyData × α)) : Option (List Int) := intsOf (kvs.map (·.1))
def dkeys (e : Ent) : Option (List Int) := match e with
  | .hotD kvs => keysI kvs
  | .hotDL kvs => keysI kvs
  | _ => none
theorem keysInl {α β : Type} {R : Key × α → PyData × β → Prop} (hR : ∀ p r, R p r → keyD p.1 = r.1) : ∀ {kv : List (Key × α)} {kvs : List (PyData × β)} {ns : List Int}, Paired R kv kvs → keysI kvs = some ns → kv.map (·.1) = ns.map Sum.inl
  | _, _, ns, .nil, h => by
    cases h
    rfl
  | (k, v) :: kv, (kd, d) :: kvs, ns, .cons r t, h => by
    have e := hR _ _ r
    simp only at e
    subst e
    cases k with
    | inl i =>
      simp only [keysI, List.map_cons, keyD, intsOf, Option.map_eq_some_iff] at h
      obtain ⟨ms, e, rfl⟩ := h
      rw [List.map_cons, List.map_cons, keysInl hR t e]
    | inr x =>
      simp only [keysI, List.map_cons, keyD, intsOf] at h
      cases h
theorem dkAt {K : PySem.W.Frag} {C H : Hp} {v : V} {en : Ent} {A : List Addr} {ns : List Int} (h : EntAt K C H v en A) (hk : dkeys en = some ns) : ∃ a kv, v = .ref a ∧ H a = some (.dK kv) ∧ kv.map (·.1) = ns.map Sum.inl := by
  cases en with
  | hotD kvs =>
    obtain ⟨a, kv, rfl, _, _, h2, h3⟩ := h
    exact ⟨a, kv, rfl, h2, keysInl (fun p r z => z.1) h3 hk⟩
  | hotDL kvs =>
    obtain ⟨a, ka, rfl, _, _, _, h2, h3⟩ := h
    refine ⟨a, _, rfl, h2, ?_⟩
    rw [List.map_map]
    exact keysInl (fun p r z => z.1) h3 hk
  | _ => cases hk
def mSortD (i : Nat) : Mi PyData := fun r => match hotE r i with
  | some en => (match dkeys en with
    | some ns => if ns.length < 64 then .ok (.list ((srtI ns).map .int)) r else .bad
    | none => .bad)
  | none => .bad
theorem deSortD {p : Pos} (hc : X.calm = true) (hv : PE X (.Name x p1) (tVar i)) (hg : Gl X "sorted") (hm : X.mg "sorted" = none) (he : starEach [.Name x p1] X.env = (false, eval (.Name x p1) X.env) :: starEach [] X.env := by rfl)
    (hpl : (backTo pos (starEach [] X.env)).any (·.1) = false := by rfl) : DE X W P (mSortD i) (.Call (.Name "sorted" p) [.Name x p1] [] pos) := fun F hF =>
  peImp (pe_callB (call_sortedDI hc) hg hm (by decide +kernel) (pa_cons hv pa_nil he) (by decide) (by decide) he hpl) fun σ H Q ⟨C, ρ, R, h⟩ => by
    unfold mSortD at h
    cases e1 : hotE ρ i with
    | none =>
      rw [e1] at h
      exact h.elim
    | some en =>
      simp only [e1] at h
      obtain ⟨g1, g2⟩ := hotE_eq e1
      obtain ⟨v, A, g3, g4, _⟩ := R.entAt g1
      cases e2 : dkeys en with
      | none =>
        simp only [e2] at h
        exact h.elim
      | some ns =>
        simp only [e2] at h
        by_cases hl : ns.length < 64
        · rw [if_pos hl] at h
          obtain ⟨ad, kv, rfl, f1, f2⟩ := dkAt g4 e2
          refine ⟨.ref ad, g3, ad, kv, ns, rfl, .inl f1, f2, hl, fun ys q h1 h2 hq => ?_⟩
          rw [srtI_uniq h1 h2]
          have ex : Ext C H (upd C q (.lst ((srtI ns).map V.int))) (upd H q (.lst ((srtI ns).map V.int))) := Ext.new R.ch hq
          exact h _ _ _ ex.cc (R.grow ex) (.lst (.inl (.inl upd_same)) (dpaInts _))
        · rw [if_neg hl] at h
          exact h.elim
/-- sorted(a new dict) -/
def mSortN (m : Mi Ent) : Mi PyData := m.bind fun en => match dkeys en with
  | some ns => if ns.length < 64 then Mi.ret (.list ((srtI ns).map .int)) else fun _ => .bad
  | none => fun _ => .bad
theorem deSortN {p : Pos} {m : Mi Ent} (hc : X.calm = true) (he0 : DN X W P m e) (hg : Gl X "sorted") (hm : X.mg "sorted" = none) (he : starEach [e] X.env = (false, eval e X.env) :: starEach [] X.env := by rfl)
    (hpl : (backTo pos (starEach [] X.env)).any (·.1) = false := by rfl) : DE X W P (mSortN m) (.Call (.Name "sorted" p) [e] [] pos) := fun F hF =>
  peImp (pe_callB (call_sortedDI hc) hg hm (by decide +kernel) (pa_cons (he0 F hF) pa_nil he) (by decide) (by decide) he hpl) fun σ H Q ⟨C, ρ, R, h⟩ => ⟨C, ρ, R, by
    unfold mSortN Mi.bind at h
    cases em : m ρ with
    | bad =>
      rw [em] at h
      exact h
    | ex c w r =>
      rw [em] at h
      exact h
    | ok en r =>
      rw [em] at h
      intro v A C1 H1 s1 R1 hE hh hA
      cases e2 : dkeys en with
      | none =>
        simp only [e2] at h
        exact h.elim
      | some ns =>
        simp only [e2] at h
        by_cases hl : ns.length < 64
        · rw [if_pos hl] at h
          obtain ⟨ad, kv, rfl, f1, f2⟩ := dkAt hE e2
          refine ⟨ad, kv, ns, rfl, .inl f1, f2, hl, fun ys q h1 h2 hq => ?_⟩
          rw [srtI_uniq h1 h2]
          have ex : Ext C1 H1 (upd C1 q (.lst ((srtI ns).map V.int))) (upd H1 q (.lst ((srtI ns).map V.int))) := Ext.new R1.ch hq
          exact h _ _ _ (s1.trans ex.cc) (R1.grow ex) (.lst (.inl (.inl upd_same)) (dpaInts _))
        · rw [if_neg hl] at h
          exact h.elim⟩
end
end Dn
set_option maxHeartbeats 4000000
namespace Dn
open PySem PySem.Spec PyProof.Rows L2

/-! ## lists of lists -/
def llOf (r : Rho) (i : Nat) : Option (List (List PyData)) := match r[i]? with
  | some (some (.hotLL xss)) => some xss
  | _ => none
theorem llOf_eq {r : Rho} {i : Nat} {xss : List (List PyData)} (h : llOf r i = some xss) : r[i]? = some (some (.hotLL xss)) := by
  unfold llOf at h
  split at h
  · rename_i e
    cases h
    exact e
  · cases h
section
variable {K : PySem.W.Frag} {F : Fr0} {C H : Hp} {σ : L2.St} {ρ : Rho}
theorem RE.llAt (R : RE K F C σ H ρ) {i : Nat} {xss : List (List PyData)} (h : ρ[i]? = some (some (.hotLL xss))) : ∃ a as, σ[i]? = some (some (.ref a)) ∧ (a :: as).Nodup ∧ C a = none ∧ H a = some (.lst (as.map V.ref)) ∧ LsAt K C H as xss ∧ ∀ b ∈ a :: as, Own K C σ H ρ i b := by
  obtain ⟨v, A, h1, ⟨a, as, rfl, rfl, h0, h2, h3, h4⟩, h5⟩ := R.entAt h
  exact ⟨a, as, h1, h0, h2, h3, h4, h5⟩
theorem RE.dlAt (R : RE K F C σ H ρ) {i : Nat} {kvss : List (PyData × List PyData)} (h : ρ[i]? = some (some (.hotDL kvss))) : ∃ a ka, σ[i]? = some (some (.ref a)) ∧ (a :: ka.map (fun (p : Key × Addr) => p.2)).Nodup ∧ C a = none ∧ H a = some (.dK (ka.map fun p => (p.1, V.ref p.2))) ∧ KlAt K C H ka kvss ∧ ∀ b ∈ a :: ka.map (fun (p : Key × Addr) => p.2), Own K C σ H ρ i b := by
  obtain ⟨v, A, h1, ⟨a, as, rfl, rfl, h0, h2, h3, h4⟩, h5⟩ := R.entAt h
  exact ⟨a, as, h1, h0, h2, h3, h4, h5⟩
theorem lsOut {b : Addr} {o : HO} : ∀ {as : List Addr} {xss : List (List PyData)}, b ∉ as → LsAt K C H as xss → LsAt K C (upd H b o) as xss
  | _, _, _, .nil => .nil
  | _, _, hb, .cons r t => by
    obtain ⟨h1, ws, h2, h3⟩ := r
    exact .cons ⟨h1, ws, by rw [upd_ne (fun z => hb (by rw [← z]; exact List.mem_cons_self))]; exact h2, h3⟩ (lsOut (fun z => hb (List.mem_cons_of_mem _ z)) t)
theorem lsUpd {b : Addr} {ws : List V} {ys : List PyData} (hd : DpAll K C ws ys) : ∀ {as : List Addr} {xss : List (List PyData)} {k : Nat}, as.Nodup → as[k]? = some b → LsAt K C H as xss → LsAt K C (upd H b (.lst ws)) as (xss.set k ys)
  | _, _, _, _, h, .nil => by simp at h
  | _, _, 0, nd, h, .cons r t => by
    simp at h
    subst h
    obtain ⟨h1, _⟩ := r
    exact .cons ⟨h1, ws, upd_same, hd⟩ (lsOut (List.nodup_cons.mp nd).1 t)
  | a :: as, _ :: _, k + 1, nd, h, .cons r t => by
    obtain ⟨h1, us, h2, h3⟩ := r
    have hk : as[k]? = some b := by simpa using h
    have nb : a ≠ b := fun z => (List.nodup_cons.mp nd).1 (by rw [z]; exact List.mem_of_getElem? hk)
    exact .cons ⟨h1, us, by rw [upd_ne nb]; exact h2, h3⟩ (lsUpd hd (List.nodup_cons.mp nd).2 hk t)
/-- one of its lists is written -/
theorem RE.writeLL (R : RE K F C σ H ρ) {i k : Nat} {xss : List (List PyData)} {ys : List PyData} {a b : Addr} {as : List Addr} {ws : List V} (h : ρ[i]? = some (some (.hotLL xss))) (ha : σ[i]? = some (some (.ref a))) (hl : H a = some (.lst (as.map V.ref))) (hk : as[k]? = some b) (hw : DpAll K C ws ys) :
    RE K F C σ (upd H b (.lst ws)) (ρ.set i (some (.hotLL (xss.set k ys)))) := by
  obtain ⟨a', as', e, h1, h2, h3, h4, h5⟩ := R.llAt h
  rw [ha] at e
  cases e
  rw [hl] at h3
  cases refInj (HO.lst.inj (Option.some.inj h3))
  have hb : b ∈ as := List.mem_of_getElem? hk
  have nb : a ≠ b := fun z => (List.nodup_cons.mp h1).1 (by rw [z]; exact hb)
  obtain ⟨_, us, hus, _⟩ : ∃ us0 : Unit, ∃ us, H b = some (.lst us) ∧ True := by
    obtain ⟨_, us, e⟩ := LsAt.mem h4 b hb
    exact ⟨(), us, e, trivial⟩
  exact R.writeE (A := a :: as) ha (h5 b (List.mem_cons_of_mem _ hb)) rfl ⟨a, as, rfl, rfl, h1, h2, by rw [upd_ne nb]; exact hl, lsUpd hw (List.nodup_cons.mp h1).2 hk h4⟩ (fun c hc => .inl (h5 c hc)) (tabsUpd R.tabs hus)
end
section
variable {X : Cx} {W : WX} {P : Pn} {a b e : Expr} {ma mk : Mi PyData} {i j : Nat} {x y : Str} {px py pt pt2 pos p1 p2 p3 p4 : Pos} {kt k2 : Nat}
/-- xss[k].append(y), y a name -/
def sLLApp (i j : Nat) (mk : Mi PyData) : Rho → Fl := fun r => match llOf r i with
  | some _ => sBind mk (fun k r' => match llOf r' i, k, r'[j]? with
    | some xss, .int n, some (some (.val d)) => (match ixN xss.length n with
      | some q => (match xss[q]? with
        | some xs => if xs.length < 16777216 then .nx (r'.set i (some (.hotLL (xss.set q (xs ++ [d]))))) else .bad
        | none => .bad)
      | none => .bad)
    | _, _, _ => .bad) r
  | none => .bad
theorem dsLLApp (hv : PE X (.Name x p1) (tVar i)) (hy : PE X (.Name y py) (tVar j)) (hk : DE X W P mk e) (hs0 : PlainIx e)
    (hs : swapsWith (.Call (.Attribute (.Subscript (.Name x p1) e p4) "append" p2) [.Name y py] [] p3) none pos.line X.env = pure false := by rfl)
    (he : starEach [.Name y py] X.env = (false, eval (.Name y py) X.env) :: starEach [] X.env := by rfl)
    (hbase : attributeBase (.Subscript (.Name x p1) e p4) "append" X.env (eval (.Subscript (.Name x p1) e p4) X.env) = eval (.Subscript (.Name x p1) e p4) X.env := by rfl)
    (hfw : ((backTo p3 (starEach [.Name y py] X.env)).all (fun x => !x.1) && (backToKw p3 (keywordEach [] X.env)).all (fun x => x.1.isSome) && decide (([.Name y py] : List Expr).length + ([] : List Keyword).length + (if ([] : List Keyword).isEmpty then 0 else 1) < 30)) = true := by rfl)
    (hl : (p2.endLine == p3.line) = true := by rfl) (hpl : (backTo p3 (starEach [] X.env)).any (·.1) = false := by rfl) :
    DS X W P (sLLApp i j mk) (.Expr (.Call (.Attribute (.Subscript (.Name x p1) e p4) "append" p2) [.Name y py] [] p3) pos) := fun F hF =>
  psImp (ps_expr (pe_bm (r := rAppend) PySem.F.plainAttrs_list PySem.F.slot_list_append PySem.F.type_list_append mt_append (pe_ix ix_list hv (hk F hF) hs0) (pa_cons hy pa_nil he) hbase hfw hl he hpl) hs) fun D σ H ⟨C, ρ, R, p⟩ => by
    unfold sLLApp at p
    cases e1 : llOf ρ i with
    | none =>
      rw [e1] at p
      exact p.elim
    | some xss0 =>
      rw [e1] at p
      obtain ⟨ad, as0, ea, _⟩ := R.llAt (llOf_eq e1)
      refine ⟨.ref ad, ea, C, ρ, R, (posBind (Rel1 := RelD X) p).imp fun kv H2 ⟨C2, ρ2, k, s2, R2, d2, h2⟩ => ?_⟩
      cases e2 : llOf ρ2 i with
      | none =>
        simp only [e2] at h2
        exact h2.elim
      | some xss =>
        cases d2 with
        | int n =>
          cases e3 : ρ2[j]? with
          | none =>
            simp only [e2, e3] at h2
            exact h2.elim
          | some o =>
            cases o with
            | none =>
              simp only [e2, e3] at h2
              exact h2.elim
            | some en =>
              cases en with
              | val d =>
                simp only [e2, e3] at h2
                obtain ⟨ad', as, ea', f1, f2, f3, f4, f5⟩ := R2.llAt (llOf_eq e2)
                rw [ea] at ea'
                cases ea'
                obtain ⟨yv, _, g1, _, g2⟩ := R2.sl j _ e3
                cases e5 : ixN xss.length n with
                | none =>
                  simp only [e5] at h2
                  exact h2.elim
                | some q =>
                  simp only [e5] at h2
                  cases e6 : xss[q]? with
                  | none =>
                    simp only [e6] at h2
                    exact h2.elim
                  | some xs =>
                    simp only [e6] at h2
                    by_cases hlen : xs.length < 16777216
                    · rw [if_pos hlen] at h2
                      obtain ⟨bq, z1, z2, ws, z3, z4⟩ := pairGet2 f4 e6
                      refine ⟨ad, as.map V.ref, n, .ref bq, rfl, rfl, SqL.of f3, ?_, .inl ⟨rfl, ws, SqL.of z3⟩, yv, g1, bq, ws, yv, rfl, rfl, z3, by rw [dpaLen z4, sizeLine_eq]; exact hlen, ?_⟩
                      · unfold atI
                        rw [List.length_map, pairLen f4, e5]
                        show (as.map V.ref)[q]? = _
                        rw [List.getElem?_map, z1]
                        rfl
                      · exact h2 σ C2 _ (Same.refl _) (R2.writeLL (llOf_eq e2) ea f3 z1 (dpaApp z4 (.cons g2 .nil)))
                    · rw [if_neg hlen] at h2
                      exact h2.elim
              | _ =>
                simp only [e2, e3] at h2
                all_goals exact h2.elim
        | _ =>
          simp only [e2] at h2
          all_goals exact h2.elim
/-- a list of lists of one's own grows cold -/
theorem RE.freezeLL {F : Fr0} {C H : Hp} {σ : L2.St} {ρ : Rho} (R : RE KD F C σ H ρ) {i : Nat} {xss : List (List PyData)} (h : ρ[i]? = some (some (.hotLL xss))) (hp : ∀ p ∈ F.pp.map (·.1) ++ F.rw.map (·.1), p ≠ i) :
    ∃ v C', σ[i]? = some (some v) ∧ Same C C' ∧ Dp KD C' v (.list (xss.map .list)) ∧ RE KD F C' σ H (ρ.set i (some (.val (.list (xss.map .list))))) := by
  obtain ⟨v, A, ev, hE, hO⟩ := R.entAt h
  have hi := R.lt h
  have h0 : ∀ b ∈ A, F.H0 b = none := fun b hb => by
    rcases R.own i b (hO b hb) with ⟨p, hp', z, _⟩ | w
    · exact absurd z (hp _ (List.mem_append_left _ (List.mem_map_of_mem hp')))
    · exact w
  have s1 : Same C (coolC C H A) := coolC_same fun b hb => (hE.mem b hb).1
  have hd : Dp KD (coolC C H A) v (.list (xss.map .list)) := by
    obtain ⟨a, as, rfl, rfl, _, _, h2, h3⟩ := hE
    exact .lst (.inl (.inl (by rw [coolC_in List.mem_cons_self]; exact h2))) (coolLs s1 (fun b hb => List.mem_cons_of_mem _ hb) h3)
  have z := R.one (C' := coolC C H A) (H' := H) (i := i) (en := some (.val (.list (xss.map .list)))) (v := some v) s1 (coolC_same2 R.ch) hi
    (fun b o h1 h2 h3 => ⟨by rw [coolC_out (fun z => h3 (h0 b z))]; exact h2, ⟨o, h1⟩, fun _ _ => h1⟩)
    (fun j hj b hb => ⟨by rw [coolC_out (fun z => hj (R.inj _ _ _ hb (hO b z)))]; exact hb.mem.1, rfl⟩)
    (fun e' he' => by
      cases he'
      exact ⟨v, [], rfl, ⟨rfl, hd⟩, fun b hb => by cases hb⟩)
    (fun p hp' z => absurd z (hp _ (List.mem_append_left _ (List.mem_map_of_mem hp'))))
    (fun q hq c1 c2 c3 _ => ⟨by rw [coolC_out (fun z => c3 i (hO _ z))]; exact c1, c2⟩) R.tabs (coolC_tab R.tabC (fun b hb => (hE.mem b hb).1) hE.put) (fun q hq hqi => ev.symm)
  have es : σ.set i (some v) = σ := by
    apply List.ext_getElem?
    intro j
    by_cases hj : i = j
    · subst hj
      rw [List.getElem?_set_self (by rw [R.len]; exact hi), ev]
    · rw [List.getElem?_set_ne hj]
  rw [es] at z
  exact ⟨v, _, ev, s1, hd, z⟩
def mVarL (i : Nat) : Mi PyData := fun r => match r[i]? with
  | some (some (.val d)) => .ok d r
  | some (some (.hot xs)) => .ok (.list xs) (r.set i (some (.val (.list xs))))
  | some (some (.hotLL xss)) => .ok (.list (xss.map .list)) (r.set i (some (.val (.list (xss.map .list)))))
  | _ => .bad
theorem deVarL (h : PE X (.Name x pos) (tVar i)) (hi : i ∉ P.ps) : DE X W P (mVarL i) (.Name x pos) := fun F hF => peImp h fun σ H Q ⟨C, ρ, R, p⟩ => by
  unfold mVarL at p
  cases e : ρ[i]? with
  | none =>
    rw [e] at p
    exact p.elim
  | some o =>
    rw [e] at p
    cases o with
    | none => exact p.elim
    | some en =>
      cases en with
      | val d =>
        obtain ⟨v, A, e1, _, e2⟩ := R.sl i _ e
        exact ⟨v, e1, poRet p R e2⟩
      | hot xs =>
        obtain ⟨a, C', e1, s, d, R'⟩ := R.freeze e (notPin hF hi)
        exact ⟨_, e1, p _ C' H s R' d⟩
      | hotLL xss =>
        obtain ⟨v, C', e1, s, d, R'⟩ := R.freezeLL e (notPin hF hi)
        exact ⟨_, e1, p _ C' H s R' d⟩
      | _ => exact p.elim
/-! ### [[] for x in it] -/
def mLL (i : Nat) (mi : Mi (List PyData)) : Mi Ent := mi.bind fun ds r => if ds.length ≤ 16777216 then .ok (.hotLL (List.replicate ds.length [])) (restR (wipeR r [i]) r [i]) else .bad
def gdL (D : Addr) (as : List Addr) (g : List (Addr × HO)) : List (Addr × HO) := (D, .lst (as.map V.ref)) :: (as.map (fun b => (b, HO.lst [])) ++ g)
theorem llImp {F : Fr0} (hPk : ∀ (F : Fr0) (g : List (Addr × HO)), P.ok F → P.ok (F.gds g)) (hF : FOk F P) {mi : Mi (List PyData)} (hv : i ∉ P.ps) {σ : L2.St} {H : Hp} {Q : VK} (h : tE X F W (mLL i mi) σ H Q) :
    tLc (tI X F W mi) (anyG X P [i] (gNm i)) (fun _ H Q => Q true H) (tLst tNil) [i] σ H Q := by
  obtain ⟨C, ρ, R, p⟩ := h
  refine ⟨C, ρ, R, ?_⟩
  unfold mLL Mi.bind at p
  have hvF : ∀ v ∈ [i], ∀ p ∈ F.pp.map (·.1) ++ F.rw.map (·.1), p ≠ v := fun v hv' => by
    cases List.mem_singleton.mp hv'
    exact notPin hF hv
  cases em : mi ρ with
  | bad =>
    rw [em] at p
    exact p.elim
  | ex c w r =>
    rw [em] at p
    exact p
  | ok ds r =>
    rw [em] at p
    simp only at p
    by_cases hlen : ds.length ≤ 16777216
    case neg =>
      rw [if_neg hlen] at p
      exact p.elim
    rw [if_pos hlen] at p
    refine ⟨ds, rfl, fun J C1 H1 s1 R1 its D hD => ?_⟩
    have ex0 : Ext C1 H1 C1 (upd H1 D (.lst [])) := ⟨Same.refl _, R1.ch.trans (sameUpd hD), sameUpd hD, fun _ _ _ z => z, fun h => h⟩
    refine ⟨fun k n H2 => n + k = ds.length ∧ ∃ C2 as, Same C1 C2 ∧ RE KD (F.gds (gdL D as F.gd)) C2 (wipe σ [i]) H2 (wipeR r [i]) ∧ as.length = k ∧ (D :: as).Nodup ∧ ∀ b ∈ D :: as, ∀ q ∈ F.gd, q.1 ≠ b,
      ⟨ds.length, rfl, C1, [], Same.refl _, ?_, rfl, by simp, fun b hb => by
        cases List.mem_singleton.mp hb
        exact R1.gdNe hD⟩, fun k n H2 hW => ?_⟩
    · exact ((R1.grow ex0).gdAdd (R1.ch.free hD) upd_same (R1.h0None hD) (R1.hotNeU hD ex0) (fun _ z => by cases z)).wipe hvF
    obtain ⟨hn, C2, as, s2, R2, hk, nd, hne⟩ := hW
    by_cases hl : k < ds.length
    · refine .inr ⟨its.go k _ C2 H2 (List.getElem?_eq_getElem hl) s2 R2.ch, fun H' => ∃ C3 as, Same C1 C3 ∧ RE KD (F.gds (gdL D as F.gd)) C3 (wipe σ [i]) H' (wipeR r [i]) ∧ as.length = k + 1 ∧ (D :: as).Nodup ∧ ∀ b ∈ D :: as, ∀ q ∈ F.gd, q.1 ≠ b, fun H' hN => ⟨n - 1, by omega, by omega, hN⟩, fun x H3 y => ?_⟩
      obtain ⟨C3, ex, dx⟩ := its.yld k _ C2 H2 x H3 (List.getElem?_eq_getElem hl) s2 R2.ch y
      have R3 := R2.grow ex
      refine ⟨F.gds (gdL D as F.gd), ⟨hF.1, hF.2.1, hPk _ _ hF.2.2⟩, C3, wipeR r [i], ds[k], R3, dx, ?_⟩
      show ∀ σ4 C4 H4, Same C3 C4 → RE KD _ C4 σ4 H4 _ → Wip [i] (wipe σ [i]) σ4 → _
      intro σ4 C4 H4 s4 R4 w4
      have w5 : wipe σ4 [i] = wipe σ [i] := by
        rw [w4 [i] (fun j hj => hj)]
        apply List.ext_getElem?
        intro j
        by_cases hj : j ∈ [i]
        · by_cases hl2 : j < σ.length
          · rw [wipeIn [i] _ j hj (by rw [wipe_length]; exact hl2), wipeIn [i] _ j hj hl2]
          · rw [List.getElem?_eq_none (by rw [wipe_length, wipe_length]; simpa using hl2), List.getElem?_eq_none (by rw [wipe_length]; simpa using hl2)]
        · rw [wipeOut [i] _ j hj]
      have wr : wipeR ((wipeR r [i]).set i (some (.val ds[k]))) [i] = wipeR r [i] := by
        apply List.ext_getElem?
        intro j
        simp only [wipeR]
        by_cases hj : i = j
        · subst hj
          simp
        · simp [List.getElem?_set_ne hj]
      refine ⟨w5, iteT ⟨by rw [sizeLine_eq]; simp, fun q hq => ?_⟩⟩
      have R5 := R4.wipe hvF
      rw [w5, wr] at R5
      obtain ⟨g1, g2, g3, g4, _⟩ := R5.gds (D, .lst (as.map V.ref)) List.mem_cons_self
      have nDq : D ≠ q := fun z => by
        subst z
        rw [hq] at g2
        cases g2
      have ex5 : Ext C4 H4 C4 (upd H4 q (.lst [])) := ⟨Same.refl _, R5.ch.trans (sameUpd hq), sameUpd hq, fun _ _ _ z => z, fun h => h⟩
      have R6 := (R5.grow ex5).gdAdd (b := q) (o := .lst []) (R5.ch.free hq) upd_same (R5.h0None hq) (R5.hotNeU hq ex5) (fun _ z => by cases z)
      refine ⟨as.map V.ref, by rw [upd_ne nDq]; exact g2, by rw [List.length_map, sizeLine_eq]; omega, C4, as ++ [q], (s2.trans ex.cc).trans s4, ?_, by simp [hk], ?_, ?_⟩
      · -- the list's new content
        obtain ⟨k1, k2, k3, k4, _⟩ := R6.gds (D, .lst (as.map V.ref)) (List.mem_cons_of_mem _ List.mem_cons_self)
        have Rf : RE KD (F.gds ((q, HO.lst []) :: (as.map (fun b => (b, HO.lst [])) ++ F.gd))) C4 (wipe σ [i]) (upd H4 q (.lst [])) (wipeR r [i]) := R6.gdSub fun z hz => by
          rcases List.mem_cons.mp hz with rfl | hz
          · exact List.mem_cons_self
          · exact List.mem_cons_of_mem _ (List.mem_cons_of_mem _ hz)
        have nd' := List.nodup_cons.mp nd
        have neD : ∀ z ∈ (F.gds ((q, HO.lst []) :: (as.map (fun b => (b, HO.lst [])) ++ F.gd))).gd, z.1 ≠ D := fun z hz => by
          rcases List.mem_cons.mp hz with rfl | hz
          · exact fun z => nDq z.symm
          · rcases List.mem_append.mp hz with hz | hz
            · obtain ⟨b, hb, rfl⟩ := List.mem_map.mp hz
              exact fun z => nd'.1 (by rw [← z]; exact hb)
            · exact hne D List.mem_cons_self z hz
        have Rg := RE.reguard (F := F.gds ((q, HO.lst []) :: (as.map (fun b => (b, HO.lst [])) ++ F.gd))) (D := D) (ws := as.map V.ref) (us := as.map V.ref ++ [.ref q]) (Rf.gdAdd k1 k2 k3 k4 (fun _ z => by cases z)) neD
        refine Rg.gdSub (F := (F.gds ((q, HO.lst []) :: (as.map (fun b => (b, HO.lst [])) ++ F.gd))).put D (as.map V.ref ++ [.ref q])) fun z hz => ?_
        unfold gdL at hz
        rcases List.mem_cons.mp hz with rfl | hz
        · rw [List.map_append]
          exact List.mem_cons_self
        · rcases List.mem_append.mp hz with hz | hz
          · rw [List.map_append] at hz
            rcases List.mem_append.mp hz with hz | hz
            · exact List.mem_cons_of_mem _ (List.mem_cons_of_mem _ (List.mem_append_left _ hz))
            · cases List.mem_singleton.mp hz
              exact List.mem_cons_of_mem _ List.mem_cons_self
          · exact List.mem_cons_of_mem _ (List.mem_cons_of_mem _ (List.mem_append_right _ hz))
      · have nq : q ∉ as := fun z => by
          obtain ⟨_, z2, _⟩ := R5.gds (q, .lst []) (List.mem_cons_of_mem _ (List.mem_append_left _ (List.mem_map.mpr ⟨q, z, rfl⟩)))
          rw [hq] at z2
          cases z2
        have nd' := List.nodup_cons.mp nd
        refine List.nodup_cons.mpr ⟨fun z => ?_, ?_⟩
        · rcases List.mem_append.mp z with z | z
          · exact nd'.1 z
          · exact nDq (List.mem_singleton.mp z)
        · rw [List.nodup_append]
          exact ⟨nd'.2, by simp, fun u hu w hw z => nq (by rw [← List.mem_singleton.mp hw, ← z]; exact hu)⟩
      · intro b hb
        rcases List.mem_cons.mp hb with rfl | hb
        · exact hne _ List.mem_cons_self
        · rcases List.mem_append.mp hb with hb | hb
          · exact hne b (List.mem_cons_of_mem _ hb)
          · cases List.mem_singleton.mp hb
            exact fun z hz => (RE.gdNe R5 hq) z (List.mem_cons_of_mem _ (List.mem_append_right _ hz))
    · have e : k = ds.length := by omega
      subst e
      refine .inl ⟨its.stop C2 H2 s2 R2.ch, ?_⟩
      have G : ∀ b ∈ D :: as, C2 b = none ∧ F.H0 b = none ∧ ∀ j, ¬ Own KD C2 (wipe σ [i]) H2 (wipeR r [i]) j b := fun b hb => by
        rcases List.mem_cons.mp hb with rfl | hb
        · obtain ⟨g1, _, g3, g4, _⟩ := R2.gds (b, .lst (as.map V.ref)) List.mem_cons_self
          exact ⟨g1, g3, g4⟩
        · obtain ⟨g1, _, g3, g4, _⟩ := R2.gds (b, .lst []) (List.mem_cons_of_mem _ (List.mem_append_left _ (List.mem_map.mpr ⟨b, hb, rfl⟩)))
          exact ⟨g1, g3, g4⟩
      obtain ⟨_, gD, _⟩ := R2.gds (D, .lst (as.map V.ref)) List.mem_cons_self
      have hE : EntAt KD C2 H2 (.ref D) (.hotLL (List.replicate ds.length [])) (D :: as) := by
        refine ⟨D, as, rfl, rfl, nd, (G D List.mem_cons_self).1, gD, ?_⟩
        have go : ∀ (l : List Addr), (∀ b ∈ l, b ∈ as) → LsAt KD C2 H2 l (List.replicate l.length []) := by
          intro l
          induction l with
          | nil => exact fun _ => .nil
          | cons b l ih =>
            intro hb
            obtain ⟨g1, g2, _⟩ := R2.gds (b, .lst []) (List.mem_cons_of_mem _ (List.mem_append_left _ (List.mem_map.mpr ⟨b, hb b List.mem_cons_self, rfl⟩)))
            exact .cons ⟨g1, [], g2, .nil⟩ (ih fun c hc => hb c (List.mem_cons_of_mem _ hc))
        have z := go as fun b hb => hb
        rw [hk] at z
        exact z
      have Ru : RE KD F C2 (wipe σ [i]) H2 (wipeR r [i]) := R2.gdSub (F := F.gds (gdL D as F.gd)) fun z hz => List.mem_cons_of_mem _ (List.mem_append_right _ hz)
      have R3 : RE KD F C2 σ H2 (restR (wipeR r [i]) r [i]) := RE.unwipe (ρ := r) (C := C1) (H := H1) Ru R1 s2 hvF
      refine p (.ref D) (D :: as) C2 H2 (s1.trans s2) R3 hE rfl fun b hb => ⟨(G b hb).2.1, fun j hj => ?_, hne b hb⟩
      obtain ⟨en, v, A, q1, q2, q3, q4⟩ := hj
      rcases restR_some q1 with ⟨d, e1, _⟩ | ⟨h1, h2⟩
      · subst e1
        rw [q3.1] at q4
        cases q4
      · exact (G b hb).2.2 j ⟨en, v, A, h2, by rw [wipeOut [i] σ j h1]; exact q2, q3, q4⟩
theorem dnLL {mi : Mi (List PyData)} {iter : Expr} {scope : Scope} (hc : X.calm = true) (hN : X.N.Nodup) (hi : DI X W P mi (.Name x px) iter) (ok : BlkOk X.N X.env.scope scope [(x, i)]) (hv : i ∉ P.ps)
    (hg : ∀ (s : Shared) (H : Hp) (C : Addr) (cl : List (Str × Addr)) (fp : List Addr), PG (X.blk s H scope (compEnvC scope cl C X.env) fp) (.Name x px) (gName i)) (hs : ∀ z, foldedSetIterable iter X.env z = pure z := by intro _; rfl)
    (hPk : ∀ (F : Fr0) (g : List (Addr × HO)), P.ok F → P.ok (F.gds g) := by exact fun _ _ h => h) :
    DN X W P (mLL i mi) (.ListComp (.List [] p2) [⟨.Name x px, iter, [], 0⟩] scope pos) := fun F hF =>
  peImp (pe_lc (own := [(x, i)]) (g := anyG X P [i] (gNm i)) (tt := fun _ H Q => Q true H) (te := tLst tNil) hc hN (hi F hF) ok
    (fun s H C cl fp => ⟨fun pins s' σ H' v u Q I r ⟨F', hF', w⟩ => (dgName (hg s H C cl fp) hv F' hF').run pins s' σ H' v u Q I r w⟩)
    (fun s H C cl fp => pts_nil) (fun s H C cl fp => pe_lst pa_nil) hs) fun σ H Q h => llImp hPk hF hv h
/-! ### dicts of lists -/
theorem klOut {K : PySem.W.Frag} {C H : Hp} {b : Addr} {o : HO} : ∀ {ka : List (Key × Addr)} {kvss : List (PyData × List PyData)}, b ∉ ka.map (fun p => p.2) → KlAt K C H ka kvss → KlAt K C (upd H b o) ka kvss
  | _, _, _, .nil => .nil
  | _, _, hb, .cons r t => by
    obtain ⟨h0, h1, ws, h2, h3⟩ := r
    exact .cons ⟨h0, h1, ws, by rw [upd_ne (fun z => hb (by rw [← z]; exact List.mem_cons_self))]; exact h2, h3⟩ (klOut (fun z => hb (List.mem_cons_of_mem _ z)) t)
/-- the list at a key, where there is one -/
theorem klGet {K : PySem.W.Frag} {C H : Hp} (q : Key) : ∀ {ka : List (Key × Addr)} {kvss : List (PyData × List PyData)}, KlAt K C H ka kvss → (dget kvss (keyD q) = none ∧ valV (ka.map fun p => (p.1, V.ref p.2)) q = none) ∨
    ∃ xs b ws, dget kvss (keyD q) = some xs ∧ valV (ka.map fun p => (p.1, V.ref p.2)) q = some (.ref b) ∧ (q, b) ∈ ka ∧ H b = some (.lst ws) ∧ DpAll K C ws xs
  | _, _, .nil => .inl ⟨rfl, rfl⟩
  | (k, b) :: ka, (kd, d) :: kvss, .cons r t => by
    obtain ⟨r1, r2, ws, r3, r4⟩ := r
    simp only at r1
    subst r1
    unfold dget valV
    rw [List.map_cons, List.find?_cons]
    simp only [keyB_eq]
    by_cases h : k = q
    · subst h
      simp only [decide_true, if_true]
      exact .inr ⟨d, b, ws, rfl, rfl, List.mem_cons_self, r3, r4⟩
    · simp only [decide_eq_false h, Bool.false_eq_true, if_false]
      rcases klGet q t with z | ⟨xs, b', ws', z1, z2, z3, z4⟩
      · exact .inl z
      · exact .inr ⟨xs, b', ws', z1, z2, List.mem_cons_of_mem _ z3, z4⟩
end
end Dn
namespace Dn
open PySem PySem.Spec PyProof.Rows L2
/-- the list at a key gets one more; a new key gets a list of one -/
def lapp : List (PyData × List PyData) → PyData → PyData → List (PyData × List PyData)
  | [], k, d => [(k, [d])]
  | p :: r, k, d => if keyB p.1 k then (p.1, p.2 ++ [d]) :: r else p :: lapp r k d
theorem klApp {K : PySem.W.Frag} {C H : Hp} (q : Key) {b : Addr} {v : V} {ws : List V} {d : PyData} (dv : Dp K C v d) : ∀ {ka : List (Key × Addr)} {kvss : List (PyData × List PyData)}, (ka.map (fun p => p.2)).Nodup → KlAt K C H ka kvss →
    valV (ka.map fun p => (p.1, V.ref p.2)) q = some (.ref b) → H b = some (.lst ws) → KlAt K C (upd H b (.lst (ws ++ [v]))) ka (lapp kvss (keyD q) d)
  | _, _, _, .nil, h, _ => by simp [valV] at h
  | (k, c) :: ka, (kd, ys) :: kvss, nd, .cons r t, h, hb => by
    obtain ⟨r1, r2, us, r3, r4⟩ := r
    simp only at r1
    subst r1
    have nd' := List.nodup_cons.mp nd
    unfold lapp
    simp only [keyB_eq]
    unfold valV at h
    rw [List.map_cons, List.find?_cons] at h
    by_cases hk : k = q
    · subst hk
      simp only [decide_true, if_true, Option.map_some, Option.some.injEq, V.ref.injEq] at h ⊢
      subst h
      simp only at r3
      rw [hb] at r3
      cases r3
      exact .cons ⟨rfl, r2, ws ++ [v], upd_same, dpaApp r4 (.cons dv .nil)⟩ (klOut nd'.1 t)
    · simp only [decide_eq_false hk, Bool.false_eq_true, if_false] at h ⊢
      have hq : ∃ p ∈ ka, p.2 = b := by
        obtain ⟨p, hp, e⟩ := Option.map_eq_some_iff.mp h
        obtain ⟨z, hz, rfl⟩ := List.mem_map.mp (List.mem_of_find?_eq_some hp)
        exact ⟨z, hz, V.ref.inj e⟩
      obtain ⟨z, hz, ez⟩ := hq
      have nb : c ≠ b := fun e => nd'.1 (by
        rw [e, ← ez]
        exact List.mem_map.mpr ⟨z, hz, rfl⟩)
      exact .cons ⟨rfl, r2, us, by rw [upd_ne nb]; exact r3, r4⟩ (klApp q dv nd'.2 t h hb)
theorem klNew {K : PySem.W.Frag} {C H : Hp} (q : Key) {b : Addr} {v : V} {d : PyData} (dv : Dp K C v d) (hb : H b = some (.lst [v])) (hC : C b = none) : ∀ {ka : List (Key × Addr)} {kvss : List (PyData × List PyData)}, KlAt K C H ka kvss →
    valV (ka.map fun p => (p.1, V.ref p.2)) q = none → KlAt K C H (ka ++ [(q, b)]) (lapp kvss (keyD q) d)
  | _, _, .nil, _ => .cons ⟨rfl, hC, [v], hb, .cons dv .nil⟩ .nil
  | (k, c) :: ka, (kd, ys) :: kvss, .cons r t, h => by
    have r1 := r.1
    simp only at r1
    subst r1
    unfold lapp
    simp only [keyB_eq]
    unfold valV at h
    rw [List.map_cons, List.find?_cons] at h
    by_cases hk : k = q
    · subst hk
      simp at h
    · simp only [decide_eq_false hk, Bool.false_eq_true, if_false] at h ⊢
      exact .cons r (klNew q dv hb hC t h)
theorem klSnoc {K : PySem.W.Frag} {C H : Hp} (kq : Key) {q : Addr} {ws : List V} {es : List PyData} (h5 : H q = some (.lst ws)) (hq : C q = none) (hd : DpAll K C ws es) : ∀ {ka : List (Key × Addr)} {kvss : List (PyData × List PyData)}, KlAt K C H ka kvss → KlAt K C H (ka ++ [(kq, q)]) (kvss ++ [(keyD kq, es)])
  | _, _, .nil => .cons ⟨rfl, hq, ws, h5, hd⟩ .nil
  | _, _, .cons z t => .cons z (klSnoc kq h5 hq hd t)
theorem putNew {kv : List (Key × V)} {q : Key} {z : V} (h : valV kv q = none) : putK kv q z = kv ++ [(q, z)] := by
  unfold putK
  rw [if_neg]
  intro e
  obtain ⟨p, hp, e2⟩ := List.any_eq_true.mp e
  unfold valV at h
  rw [Option.map_eq_none_iff] at h
  exact absurd e2 (by simpa using List.find?_eq_none.mp h p hp)
section
variable {X : Cx} {W : WX} {P : Pn} {a b e : Expr} {ma mk : Mi PyData} {i j : Nat} {x y : Str} {px py pt pt2 pos p1 p2 p3 p4 p5 p6 : Pos} {kt k2 : Nat}
/-- d.setdefault(k, []).append(y), y a name -/
def sDLApp (i j : Nat) (mk : Mi PyData) : Rho → Fl := fun r => match dlOf r i with
  | some _ => sBind mk (fun k r' => match dlOf r' i, r'[j]? with
    | some kvss, some (some (.val d)) => if (keyOf k).isSome ∧ kvss.length < 16777216 ∧ ((dget kvss k).getD []).length < 16777216 then .nx (r'.set i (some (.hotDL (lapp kvss k d)))) else .bad
    | _, _ => .bad) r
  | none => .bad
theorem dsDLApp (hij : i ≠ j) (hv : PE X (.Name x p1) (tVar i)) (hy : PE X (.Name y py) (tVar j)) (hk : DE X W P mk e)
    (m : M2 X (.Name x p1) "setdefault" p4 e (.List [] p6) p5 := by exact ⟨rfl, rfl, rfl, rfl⟩)
    (hs : swapsWith (.Call (.Attribute (.Call (.Attribute (.Name x p1) "setdefault" p4) [e, .List [] p6] [] p5) "append" p2) [.Name y py] [] p3) none pos.line X.env = pure false := by rfl)
    (he : starEach [.Name y py] X.env = (false, eval (.Name y py) X.env) :: starEach [] X.env := by rfl)
    (hbase : attributeBase (.Call (.Attribute (.Name x p1) "setdefault" p4) [e, .List [] p6] [] p5) "append" X.env (eval (.Call (.Attribute (.Name x p1) "setdefault" p4) [e, .List [] p6] [] p5) X.env) = eval (.Call (.Attribute (.Name x p1) "setdefault" p4) [e, .List [] p6] [] p5) X.env := by rfl)
    (hfw : ((backTo p3 (starEach [.Name y py] X.env)).all (fun x => !x.1) && (backToKw p3 (keywordEach [] X.env)).all (fun x => x.1.isSome) && decide (([.Name y py] : List Expr).length + ([] : List Keyword).length + (if ([] : List Keyword).isEmpty then 0 else 1) < 30)) = true := by rfl)
    (hl : (p2.endLine == p3.line) = true := by rfl) (hpl : (backTo p3 (starEach [] X.env)).any (·.1) = false := by rfl) :
    DS X W P (sDLApp i j mk) (.Expr (.Call (.Attribute (.Call (.Attribute (.Name x p1) "setdefault" p4) [e, .List [] p6] [] p5) "append" p2) [.Name y py] [] p3) pos) := fun F hF =>
  psImp (ps_expr (pe_bm (r := rAppend) PySem.F.plainAttrs_list PySem.F.slot_list_append PySem.F.type_list_append mt_append (pe_dsetd hv (hk F hF) (pe_lst pa_nil) m) (pa_cons hy pa_nil he) hbase hfw hl he hpl) hs) fun D σ H ⟨C, ρ, R, p⟩ => by
    unfold sDLApp at p
    cases e1 : dlOf ρ i with
    | none =>
      rw [e1] at p
      exact p.elim
    | some kvss0 =>
      rw [e1] at p
      obtain ⟨ad, ka0, ea, _, _, g0, _⟩ := R.dlAt (dlOf_eq e1)
      refine ⟨.ref ad, ea, ad, rfl, .inl ⟨_, .inl g0⟩, C, ρ, R, (posBind (Rel1 := RelD X) p).imp fun kv H2 ⟨C2, ρ2, k, s2, R2, d2, h2⟩ => ?_⟩
      refine ⟨by rw [sizeLine_eq]; simp, fun q hq => ?_⟩
      cases e2 : dlOf ρ2 i with
      | none =>
        simp only [e2] at h2
        exact h2.elim
      | some kvss =>
        cases e3 : ρ2[j]? with
        | none =>
          simp only [e2, e3] at h2
          exact h2.elim
        | some o =>
          cases o with
          | none =>
            simp only [e2, e3] at h2
            exact h2.elim
          | some en =>
            cases en with
            | val d =>
              simp only [e2, e3] at h2
              by_cases hc : (keyOf k).isSome ∧ kvss.length < 16777216 ∧ ((dget kvss k).getD []).length < 16777216
              · rw [if_pos hc] at h2
                obtain ⟨hc1, hc2, hc3⟩ := hc
                obtain ⟨kq, e4⟩ := Option.isSome_iff_exists.mp hc1
                have ek := keyOf_eq e4
                subst ek
                have ey := keyV d2
                subst ey
                obtain ⟨R3, _, hnew⟩ := newE (o := .lst []) R2 hq
                obtain ⟨ad', ka, ea', f1, f2, f3, f4, f5⟩ := R3.dlAt (dlOf_eq e2)
                rw [ea] at ea'
                cases ea'
                obtain ⟨yv, _, g1, _, g2⟩ := R3.sl j _ e3
                obtain ⟨n1, n2, n3⟩ := hnew q List.mem_cons_self
                have ndk := List.nodup_cons.mp f1
                refine ⟨_, kq, f3, rfl, by rw [List.length_map, pairLen f4, sizeLine_eq]; exact hc2, fun v hv => ?_, fun hv => ?_⟩
                · -- the key is there
                  rcases klGet kq f4 with ⟨_, z⟩ | ⟨xs, b, ws, z1, z2, z3, z4, z5⟩
                  · rw [z] at hv
                    cases hv
                  · rw [z2] at hv
                    cases hv
                    have hb : b ∈ ka.map (fun p => p.2) := List.mem_map.mpr ⟨_, z3, rfl⟩
                    have nb : ad ≠ b := fun z => ndk.1 (by rw [z]; exact hb)
                    rw [z1] at hc3
                    refine ⟨.inl ⟨rfl, ws, SqL.of z4⟩, yv, g1, b, ws, yv, rfl, rfl, z4, by rw [dpaLen z5, sizeLine_eq]; exact hc3, ?_⟩
                    exact h2 σ C2 _ (Same.refl _) (R3.writeE (A := ad :: ka.map (fun p => p.2)) ea (f5 b (List.mem_cons_of_mem _ hb)) rfl
                      ⟨ad, ka, rfl, rfl, f1, f2, by rw [upd_ne nb]; exact f3, klApp kq g2 ndk.2 f4 z2 z4⟩ (fun c hc => .inl (f5 c hc)) (tabsUpd R3.tabs z4))
                · -- a new key
                  rw [putNew hv]
                  have hqk : q ∉ ka.map (fun p => p.2) := fun z => n2 i (f5 q (List.mem_cons_of_mem _ z))
                  have nq : ad ≠ q := fun z => n2 i (f5 q (by rw [z]; exact List.mem_cons_self))
                  have em : (ka.map fun p => (p.1, V.ref p.2)) ++ [(kq, V.ref q)] = (ka ++ [(kq, q)]).map fun p => (p.1, V.ref p.2) := by simp
                  rw [em]
                  have ndA : (ad :: (ka ++ [(kq, q)]).map (fun p => p.2)).Nodup := by
                    rw [List.map_append]
                    refine List.nodup_cons.mpr ⟨fun z => ?_, ?_⟩
                    · rcases List.mem_append.mp z with z | z
                      · exact ndk.1 z
                      · exact nq (by simpa using z)
                    · rw [List.nodup_append]
                      exact ⟨ndk.2, by simp, fun u hu w hw z => hqk (by
                        have : w = q := by simpa using hw
                        rw [← this, ← z]
                        exact hu)⟩
                  -- what stands once the dict is written
                  have R4 := R3.writeE (A := ad :: (ka ++ [(kq, q)]).map (fun p => p.2)) (e := .hotDL (kvss ++ [(keyD kq, [])])) (u := .dK ((ka ++ [(kq, q)]).map fun p => (p.1, V.ref p.2))) ea (f5 ad List.mem_cons_self) rfl
                    ⟨ad, ka ++ [(kq, q)], rfl, rfl, ndA, f2, upd_same, klSnoc kq (by rw [upd_ne (fun z => nq z.symm)]; exact upd_same) (R2.ch.free hq) .nil (klOut ndk.1 f4)⟩
                    (fun c hc => by
                      rcases List.mem_cons.mp hc with rfl | hc
                      · exact .inl (f5 _ List.mem_cons_self)
                      · rw [List.map_append] at hc
                        rcases List.mem_append.mp hc with hc | hc
                        · exact .inl (f5 c (List.mem_cons_of_mem _ hc))
                        · have : c = q := by simpa using hc
                          subst this
                          exact .inr ⟨n1, n2, n3⟩) (tabsUpdD R3.tabs f3)
                  have hq4 : upd (upd H2 q (.lst [])) ad (.dK ((ka ++ [(kq, q)]).map fun p => (p.1, V.ref p.2))) q = some (.lst []) := by
                    rw [upd_ne (fun z => nq z.symm)]
                    exact upd_same
                  have hi2 : (ρ2.set i (some (.hotDL (kvss ++ [(keyD kq, [])]))))[i]? = some (some (.hotDL (kvss ++ [(keyD kq, [])]))) := List.getElem?_set_self (R2.lt (dlOf_eq e2))
                  obtain ⟨ad2, ka2, eb, u1, u2, u3, u4, u5⟩ := R4.dlAt hi2
                  rw [ea] at eb
                  cases eb
                  rw [upd_same] at u3
                  have e5 := kaInj (HO.dK.inj (Option.some.inj u3))
                  subst e5
                  have oq : Own KD C2 σ _ _ i q := u5 q (List.mem_cons_of_mem _ (by simp))
                  refine ⟨.inl ⟨rfl, [], SqL.of hq4⟩, yv, g1, q, [], yv, rfl, rfl, hq4, by rw [sizeLine_eq]; simp, ?_⟩
                  have R5 := R4.writeE (A := ad :: (ka ++ [(kq, q)]).map (fun p => p.2)) (e := .hotDL (lapp kvss (keyD kq) d)) (u := .lst [yv]) ea oq rfl
                    ⟨ad, ka ++ [(kq, q)], rfl, rfl, ndA, f2, by rw [upd_ne nq]; exact upd_same, klNew kq g2 upd_same (R2.ch.free hq) (klOut hqk (klOut ndk.1 f4)) hv⟩ (fun c hc => .inl (u5 c hc)) (tabsUpd R4.tabs hq4)
                  rw [List.set_set] at R5
                  exact h2 σ C2 _ (Same.refl _) R5
              · rw [if_neg hc] at h2
                exact h2.elim
            | _ =>
              simp only [e2, e3] at h2
              all_goals exact h2.elim
/-- tuple(d[k]) -/
def mTupDL (i : Nat) (mk : Mi PyData) : Mi PyData := fun r => match dlOf r i with
  | some _ => (mk.bind fun k r' => match dlOf r' i with
    | some kvss => (match dget kvss k with
      | some xs => if (keyOf k).isSome then .ok (.tuple xs) r' else .bad
      | none => .bad)
    | none => .bad) r
  | none => .bad
theorem deTupDL {p : Pos} (hu : X.A.units + 1 < cLine) (hv : PE X (.Name x p1) (tVar i)) (hk : DE X W P mk e) (hs : NoSl e) (hg : Gl X "tuple") (hm : X.mg "tuple" = none)
    (he : starEach [.Subscript (.Name x p1) e p2] X.env = (false, eval (.Subscript (.Name x p1) e p2) X.env) :: starEach [] X.env := by rfl) (hpl : (backTo pos (starEach [] X.env)).any (·.1) = false := by rfl) :
    DE X W P (mTupDL i mk) (.Call (.Name "tuple" p) [.Subscript (.Name x p1) e p2] [] pos) := fun F hF =>
  peImp (pe_callTy call_tuple_ofB hg hm (by decide +kernel) (pa_cons (pe_dget hu hv (hk F hF) hs) pa_nil he) (by decide) (by decide) he hpl) fun σ H Q ⟨C, ρ, R, h⟩ => by
    unfold mTupDL at h
    cases e1 : dlOf ρ i with
    | none =>
      rw [e1] at h
      exact h.elim
    | some kvss0 =>
      rw [e1] at h
      obtain ⟨ad, ka0, ea, _⟩ := R.dlAt (dlOf_eq e1)
      refine ⟨.ref ad, ea, C, ρ, R, (poBind (Rel1 := RelD X) h).imp fun yv H2 ⟨C2, ρ2, k, s2, R2, d2, h2⟩ => ?_⟩
      cases e2 : dlOf ρ2 i with
      | none =>
        simp only [e2] at h2
        exact h2.elim
      | some kvss =>
        simp only [e2] at h2
        obtain ⟨ad', ka, ea', f1, f2, f3, f4, f5⟩ := R2.dlAt (dlOf_eq e2)
        rw [ea] at ea'
        cases ea'
        cases e3 : dget kvss k with
        | none =>
          simp only [e3] at h2
          exact h2.elim
        | some xs =>
          simp only [e3] at h2
          cases e4 : keyOf k with
          | none =>
            simp only [e4, Option.isSome_none, Bool.false_eq_true, if_false] at h2
            exact h2.elim
          | some kq =>
            simp only [e4, Option.isSome_some, if_true] at h2
            have ek := keyOf_eq e4
            subst ek
            have ey := keyV d2
            subst ey
            rcases klGet kq f4 with ⟨z, _⟩ | ⟨xs', b, ws, z1, z2, z3, z4, z5⟩
            · rw [z] at e3
              cases e3
            · rw [e3] at z1
              cases z1
              refine ⟨ad, .ref b, rfl, by rw [← z2]; exact DGet.k f3, b, ws, rfl, .inl ⟨SqL.of z4, fun l o ho hn => ?_⟩⟩
              obtain ⟨x1, x2⟩ := coldB R2.ch hn ho z5
              exact h2 _ _ _ x1.cc (R2.grow x1) x2
/-! ### min(xs) of ints -/
def minI : List Int → Int
  | [] => 0
  | [a] => a
  | a :: b :: r => min a (minI (b :: r))
theorem minI_mem : ∀ {ns : List Int}, ns ≠ [] → minI ns ∈ ns ∧ ∀ y ∈ ns, minI ns ≤ y
  | [], h => absurd rfl h
  | [a], _ => ⟨List.mem_cons_self, fun y hy => by
    cases List.mem_singleton.mp hy
    exact Int.le_refl _⟩
  | a :: b :: r, _ => by
    obtain ⟨h1, h2⟩ := minI_mem (ns := b :: r) (by simp)
    unfold minI
    refine ⟨?_, fun y hy => ?_⟩
    · rcases Int.le_total a (minI (b :: r)) with z | z
      · rw [Int.min_eq_left z]
        exact List.mem_cons_self
      · rw [Int.min_eq_right z]
        exact List.mem_cons_of_mem _ h1
    · rcases List.mem_cons.mp hy with rfl | hy
      · exact Int.min_le_left _ _
      · exact Int.le_trans (Int.min_le_right _ _) (h2 y hy)
def bMinL : List PyData → Option PyData
  | [.list ds] => match intsOf ds with
    | some (n :: ns) => some (.int (minI (n :: ns)))
    | _ => none
  | _ => none
theorem kMinL (hc : X.calm = true) : CallR X (.builtin "min") (rDs bMinL) := by
  intro pins s σ H xs us Q I r h
  obtain ⟨C, ds, d, e, sm, da, q⟩ := h
  cases da with
  | nil => cases e
  | cons d1 d2 =>
    cases d2 with
    | cons _ _ => cases d1 <;> cases e
    | nil =>
      cases d1 with
      | @lst p vs ds hs hd =>
        simp only [bMinL] at e
        cases e1 : intsOf ds with
        | none =>
          simp only [e1] at e
          cases e
        | some ns =>
          cases ns with
          | nil =>
            simp only [e1] at e
            cases e
          | cons n ns =>
            simp only [e1] at e
            cases e
            obtain ⟨rfl, rfl⟩ := intsOk hd e1
            refine cr_min hc pins s σ H _ us Q I r ⟨p, n :: ns, rfl, upL (sm.seq hs), by simp, fun m hm hle => ?_⟩
            obtain ⟨k1, k2⟩ := minI_mem (ns := n :: ns) (by simp)
            have e : m = minI (n :: ns) := Int.le_antisymm (hle _ k1) (k2 _ hm)
            subst e
            exact q _ C H (Ext.refl sm) (.int _)
      | _ => cases e
end
end Dn
set_option maxHeartbeats 4000000
namespace Dn
open PySem PySem.Spec PyProof.Rows L2
theorem _root_.L2.Room.u1 {k : Nat} {A : Around} (r : Room k A) : A.units + 1 < cLine := by have := r.un; omega
/-- a def of which nothing is promised -/
theorem goodBad {Pg : Program} {w : World} {K : PySem.W.Frag} {mg : Str → Option Value} {base : Heap} {T : List (Addr × Str)} {k : Nat} {x : Str} {st : Stmt} {ps : List Str} {f : Addr} {cdv : Value} (D : At K mg x st ps f cdv) : Good Pg w K mg base T k x ps (fun _ => .bad) := by
  have FN : ∀ (f : Addr) (fd : FuncData), FnG Pg w K mg base k f fd ps (spM T mg ps.length fun _ => .bad) := fun f fd => ⟨fun vs H Q E h => h.1, fun A outer s H args us vs Q E hG hr e0 hbb rv hsp => by
    obtain ⟨_, C, es, As, _, _, _, _, _, z⟩ := hsp
    exact z.elim⟩
  obtain ⟨oc, kV, doc, pm, ct, an, od, osl, lk, hb, hk⟩ := D.ex
  exact ⟨⟨f, _, ps, D.hm, D.kp, hb, FN _ _⟩, ⟨f, _, D.hm, D.kp, hk, FN _ _⟩, fun f' _ fd _ _ _ _ => FN f' fd⟩
def sWhl (t : Mi Bool) (b : Rho → Fl) : Rho → Fl := whileF t b 4096
section
variable {X : Cx} {W : WX} {P : Pn} {a b c e : Expr} {ma mk mx : Mi PyData} {pos : Pos} {sts : List Stmt} {s : Rho → Fl}
theorem dsWhl {t : Mi Bool} (hp : PassesOwn (model X.prog X.w) X.A X.env X.xe) (ht : DT X W P t c) (hb : DSs X W P s sts) : DS X W P (sWhl t s) (.While c sts [] pos) := dsWhile hp ht hb
/-- {k: v} -/
def mDict1 (mk mx : Mi PyData) : Mi Ent := mk.bind fun k => mx.bind fun v => if (keyOf k).isSome then Mi.ret (.hotD [(k, v)]) else fun _ => .bad
theorem dnDict1 (hk : DE X W P mk a) (hx : DE X W P mx b) (hPk : ∀ (F : Fr0) (g : List (Addr × HO)), P.ok F → P.ok (F.gds g) := by exact fun _ _ h => h) : DN X W P (mDict1 mk mx) (.Dict [some a] [b] pos) := fun F hF => by
  let tk : TE := fun σ H Q => ∃ F', FOk F' P ∧ tM X F' W (RelD X) mk σ H Q
  let tv : TE := fun σ H Q => ∃ F', FOk F' P ∧ tM X F' W (RelD X) mx σ H Q
  have hk' : PE X a tk := ⟨fun pins s σ H Q I ⟨F', hF', h⟩ => (hk F' hF').run pins s σ H Q I h⟩
  have hx' : PE X b tv := ⟨fun pins s σ H Q I ⟨F', hF', h⟩ => (hx F' hF').run pins s σ H Q I h⟩
  refine peImp (pe_disp (pps_cons hk' hx' pps_nil) (by rfl) (by rfl) (fun z => by cases z) (by simp)) fun σ H Q ⟨C, ρ, R, h⟩ q hq => ?_
  obtain ⟨R1, hn, hA⟩ := newE (o := .dK []) R hq
  obtain ⟨n1, n2, n3⟩ := hA q List.mem_cons_self
  have R2 : RE KD (F.gds ((q, .dK []) :: F.gd)) C σ (upd H q (.dK [])) ρ := R1.gdAdd hn upd_same n1 n2 (fun _ z => by cases z)
  have hF2 : FOk (F.gds ((q, .dK []) :: F.gd)) P := ⟨hF.1, hF.2.1, hPk _ _ hF.2.2⟩
  unfold mDict1 at h
  -- exceptions go on as they are
  have exOk : ∀ {C' : Hp} {c : Str} {w : PyData} {r : Rho}, Same C C' → XP X F W C σ c w r → XP X (F.gds ((q, .dK []) :: F.gd)) W C' σ c w r := fun sc x A' d v' C2 H' hm s R' hd dv => x A' d v' C2 H' hm (sc.trans s) (R'.gdSub fun z hz => List.mem_cons_of_mem _ hz) hd dv
  refine ⟨F.gds ((q, .dK []) :: F.gd), hF2, C, ρ, R2, ?_⟩
  unfold Mi.bind at h
  cases ek : mk ρ with
  | bad =>
    rw [ek] at h
    exact h
  | ex c w r =>
    rw [ek] at h
    exact exOk (Same.refl _) h
  | ok k r =>
    rw [ek] at h
    intro kv C1 H1 s1 R3 dk
    refine ⟨F.gds ((q, .dK []) :: F.gd), hF2, C1, r, R3, ?_⟩
    simp only at h
    cases ex : mx r with
    | bad =>
      rw [ex] at h
      exact h
    | ex c w r2 =>
      rw [ex] at h
      exact exOk s1 h
    | ok v r2 =>
      rw [ex] at h
      simp only at h
      intro vv C2 H2 s2 R4 dv
      obtain ⟨g1, g2, g3, g4, _⟩ := R4.gds (q, .dK []) List.mem_cons_self
      refine ⟨g2, ?_⟩
      cases e4 : keyOf k with
      | none =>
        rw [e4] at h
        exact h.elim
      | some kq =>
        rw [e4] at h
        have eq := keyOf_eq e4
        subst eq
        have ey := keyV dk
        subst ey
        refine ⟨[(kq, vv)], rfl, by simp, ?_⟩
        have e5 : mergeK [] [(kq, vv)] = [(kq, vv)] := rfl
        rw [e5]
        have Rf : RE KD F C2 σ H2 r2 := R4.gdSub (F := F.gds ((q, .dK []) :: F.gd)) fun z hz => List.mem_cons_of_mem _ hz
        have Rk : RE KD F C2 σ (upd H2 q (.dK [(kq, vv)])) r2 := Rf.keep (Same.refl _) (fun z o hz => by
            rw [upd_ne (fun y => by subst y; rw [g1] at hz; cases hz)]
            exact Rf.ch _ _ hz)
          (fun z o h1 h2 h3 => by
            have nz : z ≠ q := fun y => by subst y; exact h3 n1
            rw [upd_ne nz]
            exact ⟨h2, ⟨o, h1⟩, fun _ _ => h1⟩)
          (fun j z hz => ⟨hz.mem.1, upd_ne fun y => g4 j (by rw [← y]; exact hz)⟩)
          (fun z hz h1 h2 _ _ => ⟨h1, by rw [upd_ne (n3 z hz)]; exact h2⟩) (tabsUpdD Rf.tabs g2) Rf.tabC
        refine h (.ref q) [q] C2 _ (s1.trans s2) Rk ⟨q, [(kq, vv)], rfl, rfl, g1, upd_same, .cons ⟨rfl, dv⟩ .nil⟩ rfl fun z hz => ?_
        cases List.mem_singleton.mp hz
        refine ⟨n1, fun j hj => ?_, n3⟩
        obtain ⟨x1, x2, x3, y1, y2, y3, y4⟩ := hj
        exact g4 j (Own.back Rf (Same.refl _) y1 y2 (fun z hz => ⟨hz.mem.1, upd_ne fun y => g4 j (by rw [← y]; exact hz)⟩) y3 y4)
theorem blkOkR {N : List Str} {sc scope : Scope} {own : List (Str × Nat)} (k : scope.kind = .function) (u : ∀ y ∈ scope.names, scope.names.lookup y.1 = some y.2) (ix : ∀ p ∈ own, N[p.2]? = some p.1)
    (h : (scope.names.all fun y => !(y.2 == .free) || (sc.names.lookup y.1 == some .cell || sc.names.lookup y.1 == some .free)) = true) (o : ∀ y ∈ scope.names, y.2 = .local ∨ y.2 = .cell → y.1 ∈ own.map (·.1) ∨ y.1 ∉ N) : BlkOk N sc scope own := by
  refine ⟨k, u, ix, fun y hy hf => ?_, o⟩
  have z := List.all_eq_true.mp h y hy
  rw [hf] at z
  simp only [Bool.or_eq_true] at z
  rcases z with z | z | z
  · exact absurd z (by decide)
  · refine Or.inl ?_
    cases e : sc.names.lookup y.1 with
    | none =>
      rw [e] at z
      cases z
    | some q =>
      rw [e] at z
      cases q <;> first | rfl | exact absurd z (by decide)
  · refine Or.inr ?_
    cases e : sc.names.lookup y.1 with
    | none =>
      rw [e] at z
      cases z
    | some q =>
      rw [e] at z
      cases q <;> first | rfl | exact absurd z (by decide)
/-- y = [[] for x in it] -/
theorem dsSetLL {i j : Nat} {x y : Str} {px py p2 spos : Pos} {mi : Mi (List PyData)} {iter : Expr} {scope : Scope} (hi' : j ∉ P.ps) (hy : X.N[j]? = some y) (hyl : X.env.scope.names.lookup y = some .local)
    (hsw : swapsWith (.ListComp (.List [] p2) [⟨.Name x px, iter, [], 0⟩] scope pos) (some (.Name y py)) spos.line X.env = pure true)
    (hc : X.calm = true) (hN : X.N.Nodup) (hi : DI X W P mi (.Name x px) iter) (ok : BlkOk X.N X.env.scope scope [(x, i)]) (hv : i ∉ P.ps)
    (hg : ∀ (s : Shared) (H : Hp) (C : Addr) (cl : List (Str × Addr)) (fp : List Addr), PG (X.blk s H scope (compEnvC scope cl C X.env) fp) (.Name x px) (gName i)) (hs : ∀ z, foldedSetIterable iter X.env z = pure z := by intro _; rfl)
    (hPk : ∀ (F : Fr0) (g : List (Addr × HO)), P.ok F → P.ok (F.gds g) := by exact fun _ _ h => h) :
    DS X W P (sSetE j (mLL i mi)) (.Assign [.Name y py] (.ListComp (.List [] p2) [⟨.Name x px, iter, [], 0⟩] scope pos) spos) := fun F hF =>
  psImp (ps_setLc (i := j) (own := [(x, i)]) (g := anyG X P [i] (gNm i)) (tt := fun _ H Q => Q true H) (te := tLst tNil) hc hN hy hyl hsw (hi F hF) ok
    (fun s H C cl fp => ⟨fun pins s' σ H' v u Q I r ⟨F', hF', w⟩ => (dgName (hg s H C cl fp) hv F' hF').run pins s' σ H' v u Q I r w⟩)
    (fun s H C cl fp => pts_nil) (fun s H C cl fp => pe_lst pa_nil) hs) fun D σ H ⟨C, ρ, R, p⟩ => by
    refine llImp hPk hF hv ⟨C, ρ, R, ?_⟩
    unfold sSetE sBind at p
    cases e : mLL i mi ρ with
    | ok en r =>
      rw [e] at p
      exact fun v A C' H' s1 R1 hE hh hA => p _ C' H' s1 (R1.setE (notPin hF hi') hE hA)
    | ex c w r =>
      rw [e] at p
      exact p σ
    | bad =>
      rw [e] at p
      exact p
end
end Dn
set_option maxHeartbeats 4000000
namespace Dn
open PySem PySem.Spec PyProof.Rows L2
/-! ## try .. except x, without a name -/
def noEx : Fl → Fl
  | .ex _ _ _ => .bad
  | o => o
def sTryO (isC : Str → Option Bool) (body suite : Rho → Fl) : Rho → Fl := fun r => match body r with
  | .ex c w r' => (match isC c with
      | some true => noEx (suite r')
      | some false => .ex c w r'
      | none => .bad)
  | o => o
theorem dsTryO {X : Cx} {W : WX} {P : Pn} {x : Str} {cv : Value} {body suite : List Stmt} {b0 : Stmt} {np pos pos2 : Pos} {mb ms : Rho → Fl} {isC : Str → Option Bool}
    (hs : X.stack = X.env :: X.outer) (hf : X.env.frame = some X.env.locals) (hc : Names X x cv) (tk : Takes X W)
    (hC : ∀ c b A, isC c = some b → X.mg c = some (.ref A) → PySem.W.exmOne X.K (.ref A) cv = some b)
    (hb : ∀ (W' : WX) (pn : List (Addr × Obj)) (xe : Value → Shared → Prop), Takes (X.tr pn xe) W' → DSs (X.tr pn xe) W' P mb body)
    (hsu : ∀ (a : Addr) (oe : Obj) (pn : List (Addr × Obj)), DSs (X.suite a ((a, oe) :: pn)) (fun _ _ _ _ => False) P ms (b0 :: suite)) :
    DS X W P (sTryO isC mb ms) (.Try body [.ExceptHandler (some (.Name x np)) none (b0 :: suite) pos2] [] [] pos) := by
  intro F hF
  refine psImp (ps_try_only (Wout := W) (tb := fun W' => tS X F W' mb) (ts := fun _ _ _ D σ H => tS X F (fun _ _ _ _ => False) ms D σ H)
    hs hf hc tk (fun W' pn xe tk' _ => hb W' pn xe tk' F hF) (fun a oe cls d pn hz hv => ?_)) fun D σ H ⟨C, ρ, R, h⟩ => ⟨C, ρ, R, ?_⟩
  · constructor
    intro pins s σ H D I h
    exact (hsu a oe pn F hF).run pins s σ H D I h
  · unfold sTryO at h
    cases e : mb ρ with
    | nx r =>
      simp only [e] at h
      exact h
    | bk r =>
      simp only [e] at h
      exact h
    | ct r =>
      simp only [e] at h
      exact h
    | rt d r =>
      simp only [e] at h
      exact h
    | bad =>
      simp only [e] at h
      exact h
    | ex c w r =>
      simp only [e] at h
      intro σ' A dd v C' H' hm s1 R1 hd dv
      cases ec : isC c with
      | none =>
        simp only [ec] at h
        exact h.elim
      | some b =>
        refine ⟨b, hC c b A ec hm, fun hb a na => ?_, fun hb => ?_⟩
        · subst hb
          simp only [ec] at h
          refine ⟨C', r, R1, ?_⟩
          cases es : ms r with
          | nx r2 =>
            simp only [es, noEx] at h
            exact fun σ2 C2 H2 s2 R2 => h _ C2 H2 (s1.trans s2) R2
          | bk r2 =>
            simp only [es, noEx] at h
            exact fun σ2 C2 H2 s2 R2 => h _ C2 H2 (s1.trans s2) R2
          | ct r2 =>
            simp only [es, noEx] at h
            exact fun σ2 C2 H2 s2 R2 => h _ C2 H2 (s1.trans s2) R2
          | rt d r2 =>
            simp only [es, noEx] at h
            exact fun v2 σ2 C2 H2 s2 R2 d2 => h v2 _ C2 H2 (s1.trans s2) R2 d2
          | ex c2 w2 r2 =>
            simp only [es, noEx] at h
            exact h.elim
          | bad =>
            simp only [es, noEx] at h
            exact h.elim
        · subst hb
          simp only [ec] at h
          exact h σ' A dd v C' H' hm s1 R1 hd dv
end Dn
set_option maxHeartbeats 4000000
namespace Dn
open PySem PySem.Spec PyProof.Rows L2
/-! ## try .. with several except clauses, with and without a name -/
/-- where a clause's suite comes back to -/
def endsAt (D : Ends) : Option Nat → Ends
  | none => D
  | some i => { nx := fun σ H => D.nx (σ.set i none) H, rt := D.rt, bk := fun σ H => D.bk (σ.set i none) H, ct := fun σ H => D.ct (σ.set i none) H }
def heldAt (σ : L2.St) (a : Addr) : Option Nat → L2.St
  | none => σ
  | some i => σ.set i (some (.ref a))
abbrev Cl := Value × Option Nat × (Addr → Value → Option Addr → TS)
def wL (K : PySem.W.Frag) (Wout : WX) (D : Ends) : List Cl → WX
  | [] => Wout
  | (c, i, ts) :: r => fun cls d σ H => ∃ b, PySem.W.exmOne K cls c = some b ∧ (b = true → ∀ a, H a = none → ts a cls d (endsAt D i) (heldAt σ a i) H) ∧ (b = false → wL K Wout D r cls d σ H)
/-- the name of a clause, a local of slot i -/
def NameAt (X : Cx) : Option Str → Option Nat → Prop
  | none, none => True
  | some n, some i => X.N.Nodup ∧ X.N[i]? = some n ∧ X.env.kindOf n = some .local
  | _, _ => False
inductive HdsL (X : Cx) : List ExceptHandler → List Cl → Prop
  | nil : HdsL X [] []
  | cons {x : Str} {c : Value} {n : Option Str} {i : Option Nat} {ts : Addr → Value → Option Addr → TS} {b0 : Stmt} {suite : List Stmt} {np p : Pos} {hds : List ExceptHandler} {l : List Cl} (hc : Names X x c) (hn : NameAt X n i)
      (hsu : ∀ (a : Addr) (oe : Obj) (cls : Value) (d : Option Addr) (pn : List (Addr × Obj)), Zc cls d oe → (∃ vs, oe.data = .fields vs) → PSs (X.suite a ((a, oe) :: pn)) (b0 :: suite) (ts a cls d)) (r : HdsL X hds l) :
      HdsL X (.ExceptHandler (some (.Name x np)) n (b0 :: suite) p :: hds) ((c, i, ts) :: l)

/-- what stands fast while an error is looked at by the clauses: fly = it is in the air in the heap -/
structure Air (X : Cx) (pins : List (Addr × Obj)) (σ : L2.St) (H : Hp) (a : Addr) (cls : Value) (d : Option Addr) (sI s : Shared) (B : Heap) : Prop where
  ok : X.Ok
  hs : X.stack = X.env :: X.outer
  hf : X.env.frame = some X.env.locals
  J : Inv X pins σ H sI
  nb : ∀ b o, sI.heap.get? b = some o → b ∉ frs X.stack → B.get? b = some o
  up : sI.heap.UpToSlots s.heap
  na : H a = none
  os : s.os = sI.os
  ag : AllBare s.gens
  fly : HandSPX.FlyingZ B (X.env :: X.outer) a (Zc cls d) s.heap
section
variable {X : Cx} {pins : List (Addr × Obj)} {σ : L2.St} {H : Hp} {s sI : Shared} {B : Heap} {a : Addr} {cls : Value} {d : Option Addr}
theorem Air.at (x : Air X pins σ H a cls d sI s B) : Inv X pins σ H s := x.J.landed x.nb x.fly.1 x.up x.os x.ag
theorem Air.move {h : Heap} (x : Air X pins σ H a cls d sI s B) (f : HandSPX.FlyingZ B (X.env :: X.outer) a (Zc cls d) h) (u : s.heap.UpToSlots h) : Air X pins σ H a cls d sI { s with heap := h } B :=
  ⟨x.ok, x.hs, x.hf, x.J, x.nb, x.up.trans u, x.na, x.os, x.ag, f⟩
theorem Air.obj (x : Air X pins σ H a cls d sI s B) : ∃ oe vs, s.heap.get? a = some oe ∧ Zc cls d oe ∧ oe.data = .fields vs ∧ Inv (X.suite a ((a, oe) :: (X.pn ++ pins))) [] σ H s := by
  obtain ⟨oe, vs, he, hz, hd⟩ := x.fly.there
  have far : a ∉ frs (X.env :: X.outer) := fun hm => by
    obtain ⟨_, o, e, hn⟩ := x.fly.2.2.1.mem hm
    rw [he] at e
    cases e
    exact hn _ hd
  exact ⟨oe, vs, he, hz, hd, x.at.suite he hd x.na (fun z => far (List.mem_filterMap.mpr ⟨X.env, List.mem_cons_self, by rw [x.hf, z]⟩)) fun hm => by
    obtain ⟨e, he', q⟩ := List.mem_filterMap.mp hm
    exact far (List.mem_filterMap.mpr ⟨e, List.mem_cons_of_mem _ he', q⟩)⟩
/-- no clause takes it: it goes on -/
theorem Air.onward {Wout : WX} {D : Ends} (x : Air X pins σ H a cls d sI s B) (tk : Takes X Wout) (w : Wout cls d σ H) : wpAny (model X.prog X.w) X.A (handleBy (.ref a) X.env []) (SP X pins D) X.xe s := by
  refine wpAny_handleBy_nil ?_
  obtain ⟨_, _, _, oe, vs, T, oT, ts, he, _, hd, h1, _⟩ := id x.fly
  have last : wpAny (model X.prog X.w) X.A (setFlight (.ref a) X.env.frame) (fun _ s4 => wpAny (model X.prog X.w) X.A (throw (.ref a) : Sem Flow) (SP X pins D) X.xe s4) X.xe s := by
    rw [x.hf]
    exact HandSPX.setFlight_upZ x.fly fun h4 hh up4 => wpAny_throw (tk _ _ ⟨a, B, sI, pins, σ, H, cls, d, rfl, x.J, x.nb, x.up.trans up4, .inr (.inr (by rw [x.hs]; exact hh)), x.na, x.os, x.ag, w⟩)
  unfold PySem.passOn
  refine wpAny_bind (wpAny_field he hd h1 ?_)
  rw [if_neg (show ¬ ((Value.ref T == Value.none) = true) from by simp)]
  first
    | exact wpAny_bind (wpAny_pure (wpAny_bind last))
    | exact wpAny_bind last
/-- the clauses, one after the other -/
theorem Air.run {Wout : WX} {D : Ends} (x : Air X pins σ H a cls d sI s B) (tk : Takes X Wout) : ∀ {hds : List ExceptHandler} {l : List Cl}, HdsL X hds l → wL X.K Wout D l cls d σ H → wpAny (model X.prog X.w) X.A (handleBy (.ref a) X.env hds) (SP X pins D) X.xe s := by
  intro hds l hh
  induction hh with
  | nil => exact x.onward tk
  | @cons nm c n i ts b0 suite np p hds l hc hn hsu _ ih =>
    intro ⟨b, hb, yes, no⟩
    obtain ⟨oe, vs, he, hz, hd, S⟩ := x.obj
    refine wpAny_handleBy_cons (codeAny_handlers_test ?_) (fun q => nomatch q)
    have looks : PySem.W.Looks (model X.prog X.w) s.heap (typeOf (.ref a)) cls := fun _ _ _ _ k q => wpAny_typeOf_ref (k _ _ he) (by rw [hz.1]; exact q)
    have named : ∀ {Q E : Value → Shared → Prop}, Q c s → wpAny (model X.prog X.w) (X.A.mark (some (.ref a))) (eval (.Name nm np) X.env) Q E s := fun q => by
      obtain ⟨hg, hdbg, h | ⟨h, hv, hnn⟩⟩ := hc
      · exact ld_glob S hg h q hdbg
      · exact ld_blt S hg h hv q hnn hdbg
    refine named ((PySem.W.exm_one (M := model X.prog X.w) x.at.kIn looks hb).here ?_)
    cases b with
    | false => exact ih (no rfl)
    | true =>
      have w := yes rfl a x.na
      cases n with
      | none =>
        cases i with
        | some i => exact hn.elim
        | none =>
          refine codeAny_handlers_suite (HandSPX.lands_againZ x.fly fun h4 fl4 up4 => ?_)
          obtain ⟨oe4, vs4, _, hz4, hd4, S4⟩ := (x.move fl4 up4).obj
          refine wpAny_mono ((hsu a oe4 cls d (X.pn ++ pins) hz4 ⟨_, hd4⟩).run [] _ σ H D S4 w) (fun f s6 q => ?_) fun _ _ z => z.elim
          cases f with
          | ret u =>
            obtain ⟨v, σ6, H6, S6, r6, q6⟩ := q
            exact ⟨v, σ6, H6, S6.unsuite x.ok, r6, q6⟩
          | next =>
            obtain ⟨σ6, H6, S6, q6⟩ := q
            exact ⟨σ6, H6, S6.unsuite x.ok, q6⟩
          | brk =>
            obtain ⟨σ6, H6, S6, q6⟩ := q
            exact ⟨σ6, H6, S6.unsuite x.ok, q6⟩
          | cont =>
            obtain ⟨σ6, H6, S6, q6⟩ := q
            exact ⟨σ6, H6, S6.unsuite x.ok, q6⟩
      | some n =>
        cases i with
        | none => exact hn.elim
        | some i =>
          obtain ⟨hN, hi, hln⟩ := hn
          refine codeAny_handlers_suite_as (HandSPX.lands_againZ x.fly fun h4 fl4 up4 => ?_)
          obtain ⟨oe4, vs4, _, hz4, hd4, S4⟩ := (x.move fl4 up4).obj
          refine store_ok (X := X.suite a ((a, oe4) :: (X.pn ++ pins))) (v := .ref a) S4 hN hi (.inl hln) rfl (fun s5 S5 => ?_) (.inr hln)
          refine wpAny_mono ((hsu a oe4 cls d (X.pn ++ pins) hz4 ⟨_, hd4⟩).run [] s5 _ H _ S5 w) (fun f s6 q => ?_) fun _ _ z => z.elim
          have gone : ∀ {σ6 : L2.St} {H6 : Hp} {Q : Shared → Prop}, Inv (X.suite a ((a, oe4) :: (X.pn ++ pins))) [] σ6 H6 s6 → (∀ s7, Inv X pins (σ6.set i none) H6 s7 → Q s7) →
              wpAny (model X.prog X.w) X.A (do bindName X.env n .none; unbindBehindTheSuite X.env n p) (fun _ s7 => Q s7) X.xe s6 := fun S6 k => gone_ok (S6.unsuite x.ok) hN hi hln k
          cases f with
          | ret u =>
            obtain ⟨v, σ6, H6, S6, r6, q6⟩ := q
            exact gone S6 fun s7 J7 => ⟨v, _, _, J7, r6, q6⟩
          | next =>
            obtain ⟨σ6, H6, S6, q6⟩ := q
            exact gone S6 fun s7 J7 => ⟨_, _, J7, q6⟩
          | brk =>
            obtain ⟨σ6, H6, S6, q6⟩ := q
            exact gone S6 fun s7 J7 => ⟨_, _, J7, q6⟩
          | cont =>
            obtain ⟨σ6, H6, S6, q6⟩ := q
            exact gone S6 fun s7 J7 => ⟨_, _, J7, q6⟩
end
section
variable {X : Cx} {body : List Stmt} {h0 : ExceptHandler} {hds : List ExceptHandler} {l : List Cl} {pos : Pos} {tb : WX → TS} {Wout : WX}
theorem psTryL (hs : X.stack = X.env :: X.outer) (hf : X.env.frame = some X.env.locals) (tk : Takes X Wout)
    (hb : ∀ (W : WX) (pn : List (Addr × Obj)) (xe : Value → Shared → Prop), Takes (X.tr pn xe) W → PassesOwn (model X.prog X.w) X.A X.env xe → PSs (X.tr pn xe) body (tb W)) (hh : HdsL X (h0 :: hds) l) :
    PS X (.Try body (h0 :: hds) [] [] pos) (fun D σ H => tb (wL X.K Wout D l) D σ H) := by
  refine ⟨fun pins s σ H D I h => ?_⟩
  have ok := I.ok
  have hfr : X.A.frames = some (X.env :: X.outer) := by rw [ok.frames, hs]
  refine wpAny_Try_except (wpAny_mono ((hb (wL X.K Wout D l) (X.pn ++ pins) (fun e s1 => wpAny (model X.prog X.w) X.A (noteFrame e X.env) (fun _ s2 => wpAny (model X.prog X.w) X.A (setFlight e none) (fun _ s3 =>
    wpAny (model X.prog X.w) X.A (handleBy e X.env (h0 :: hds)) (SP X pins D) X.xe s3) X.xe s2) X.xe s1) (fun u s' y => ?_) PassesOwn.looking).run [] s σ H D (I.toTry _) h) (fun f s1 q => ?_) fun _ _ z => z)
  · obtain ⟨a, B, sI, _, σ', H', cls, d, rfl, J', nb, up, sky, na, os, ag, w⟩ := y
    exact Sky.land Zc.steady hfr hf (by rw [← hs]; exact sky) fun h3 fl up3 => Air.run (s := { s' with heap := h3 }) ⟨ok, hs, hf, J'.ofTry ok, nb, up.trans up3, na, os, ag, fl⟩ tk hh w
  · cases f with
    | ret u =>
      obtain ⟨v, σ', H', J', r, q⟩ := q
      exact ⟨v, σ', H', J'.ofTry ok, r, q⟩
    | next =>
      obtain ⟨σ', H', J', q⟩ := q
      exact wpAny_execs_nil ⟨σ', H', J'.ofTry ok, q⟩
    | brk =>
      obtain ⟨σ', H', J', q⟩ := q
      exact ⟨σ', H', J'.ofTry ok, q⟩
    | cont =>
      obtain ⟨σ', H', J', q⟩ := q
      exact ⟨σ', H', J'.ofTry ok, q⟩
end

/-! ### the mirror -/
abbrev MCl := Option Nat × (Str → Option Bool) × (Str → PyData → Rho → Fl)
def pickL : List MCl → Str → PyData → Rho → Fl
  | [], c, w, r => .ex c w r
  | (i, isC, ms) :: t, c, w, r => match isC c with
    | some true => (match i with
      | none => noEx (ms c w r)
      | some i => if i < r.length then unslot i (ms c w (r.set i none)) else .bad)
    | some false => pickL t c w r
    | none => .bad
def sTryL (cl : List MCl) (body : Rho → Fl) : Rho → Fl := fun r => match body r with
  | .ex c w r' => pickL cl c w r'
  | o => o
/-- a clause's derivation -/
inductive DCl (X : Cx) (P : Pn) : List MCl → List ExceptHandler → Prop
  | nil : DCl X P [] []
  | cons0 {x : Str} {cv : Value} {b0 : Stmt} {suite : List Stmt} {np p : Pos} {t : List MCl} {hds : List ExceptHandler} {isC : Str → Option Bool} {ms : Rho → Fl} (hc : Names X x cv)
      (hC : ∀ c b A, isC c = some b → X.mg c = some (.ref A) → PySem.W.exmOne X.K (.ref A) cv = some b)
      (hsu : ∀ (a : Addr) (oe : Obj) (pn : List (Addr × Obj)), DSs (X.suite a ((a, oe) :: pn)) (fun _ _ _ _ => False) P ms (b0 :: suite)) (r : DCl X P t hds) :
      DCl X P ((none, isC, fun _ _ => ms) :: t) (.ExceptHandler (some (.Name x np)) none (b0 :: suite) p :: hds)
  | cons1 {x n : Str} {i : Nat} {cv : Value} {b0 : Stmt} {suite : List Stmt} {np p : Pos} {t : List MCl} {hds : List ExceptHandler} {isC : Str → Option Bool} {ms : Str → PyData → Rho → Fl} (hc : Names X x cv) (hn : NameAt X (some n) (some i)) (hip : i ∉ P.ps)
      (hC : ∀ c b A, isC c = some b → X.mg c = some (.ref A) → PySem.W.exmOne X.K (.ref A) cv = some b)
      (hsu : ∀ (c : Str) (w : PyData) (a A dd : Addr) (oe : Obj) (pn : List (Addr × Obj)) (ok : Fr0 → Prop), isC c = some true → X.mg c = some (.ref A) → Zc (.ref A) (some dd) oe → (∃ vs, oe.data = .fields vs) → (∀ F, ok F → Held i a dd w F) →
        DSs (X.suite a ((a, oe) :: pn)) (fun _ _ _ _ => False) ⟨P.ps ++ [i], P.tb, ok⟩ (ms c w) (b0 :: suite)) (r : DCl X P t hds) :
      DCl X P ((some i, isC, ms) :: t) (.ExceptHandler (some (.Name x np)) (some n) (b0 :: suite) p :: hds)
section
variable {X : Cx} {W : WX} {P : Pn} {F : Fr0}
theorem hdsOf (hF : FOk F P) {cl : List MCl} {hds : List ExceptHandler} (h : DCl X P cl hds) : ∃ l : List Cl, HdsL X hds l ∧
    ∀ (D : Ends) (c : Str) (w : PyData) (r : Rho) (C C' H' : Hp) (σ' : L2.St) (A dd : Addr) (v : V), PoS X F W C D (pickL cl c w r) → X.mg c = some (.ref A) → Same C C' → RE KD F C' σ' H' r → C' dd = some (xw dd v) → Dp KD C' v w →
      wL X.K W D l (.ref A) (some dd) σ' H' := by
  induction h with
  | nil => exact ⟨[], .nil, fun D c w r C C' H' σ' A dd v h hm s1 R1 hd dv => h σ' A dd v C' H' hm s1 R1 hd dv⟩
  | @cons0 x cv b0 suite np p t hds isC ms hc hC hsu _ ih =>
    obtain ⟨l, hl, k⟩ := ih
    refine ⟨(cv, none, fun _ _ _ => tS X F (fun _ _ _ _ => False) ms) :: l, .cons hc trivial (fun a oe cls d pn hz hv => ⟨fun pins s σ H D I h => (hsu a oe pn F hF).run pins s σ H D I h⟩) hl, fun D c w r C C' H' σ' A dd v h hm s1 R1 hd dv => ?_⟩
    unfold pickL at h
    cases ec : isC c with
    | none =>
      simp only [ec] at h
      exact h.elim
    | some b =>
      refine ⟨b, hC c b A ec hm, fun hb a na => ?_, fun hb => ?_⟩
      · subst hb
        simp only [ec] at h
        refine ⟨C', r, R1, ?_⟩
        have h' := h.mono s1
        cases es : ms r with
        | ex c2 w2 r2 =>
          simp only [es, noEx] at h'
          exact h'.elim
        | bad =>
          simp only [es, noEx] at h'
          exact h'.elim
        | nx r2 =>
          simp only [es, noEx] at h'
          exact h'
        | bk r2 =>
          simp only [es, noEx] at h'
          exact h'
        | ct r2 =>
          simp only [es, noEx] at h'
          exact h'
        | rt d r2 =>
          simp only [es, noEx] at h'
          exact h'
      · subst hb
        simp only [ec] at h
        exact k D c w r C C' H' σ' A dd v h hm s1 R1 hd dv
  | @cons1 x n i cv b0 suite np p t hds isC ms hc hn hip hC hsu _ ih =>
    obtain ⟨l, hl, k⟩ := ih
    have nP := notPin hF hip
    refine ⟨(cv, some i, fun a cls d D σ H => ∃ (c : Str) (w : PyData) (A dd : Addr) (C : Hp), isC c = some true ∧ cls = .ref A ∧ d = some dd ∧ X.mg c = some (.ref A) ∧ Held i a dd w { F with rw := F.rw ++ [(i, a)], B := C } ∧
        tS X { F with rw := F.rw ++ [(i, a)], B := C } (fun _ _ _ _ => False) (ms c w) D σ H) :: l, .cons hc hn (fun a oe cls d pn hz hv => ⟨fun pins s σ H D I ⟨c, w, A, dd, C, e1, e2, e3, e4, e5, h⟩ => ?_⟩) hl, fun D c w r C C' H' σ' A dd v h hm s1 R1 hd dv => ?_⟩
    · subst e2
      subst e3
      exact (hsu c w a A dd oe pn (fun F' => F' = { F with rw := F.rw ++ [(i, a)], B := C }) e1 e4 hz hv (fun F' e => by subst e; exact e5) { F with rw := F.rw ++ [(i, a)], B := C } ⟨by
        show F.pp.map (·.1) ++ (F.rw ++ [(i, a)]).map (·.1) = P.ps ++ [i]
        rw [List.map_append, ← List.append_assoc, hF.1]
        rfl, hF.2.1, rfl⟩).run pins s σ H D I h
    · unfold pickL at h
      cases ec : isC c with
      | none =>
        simp only [ec] at h
        exact h.elim
      | some b =>
        refine ⟨b, hC c b A ec hm, fun hb a na => ?_, fun hb => ?_⟩
        · subst hb
          simp only [ec] at h
          by_cases hlr : i < r.length
          · rw [if_pos hlr] at h
            refine ⟨c, w, A, dd, C', ec, rfl, rfl, hm, ⟨⟨v, hd, dv⟩, List.mem_append_right _ (List.mem_singleton.mpr rfl)⟩, C', r.set i none, R1.suiteIn nP hlr, ?_⟩
            have h' := h.mono s1
            have base := R1.bb
            cases es : ms c w (r.set i none) with
            | ex c2 w2 r2 =>
              simp only [es, unslot] at h'
              exact h'.elim
            | bad =>
              simp only [es, unslot] at h'
              exact h'.elim
            | nx r2 =>
              simp only [es, unslot] at h'
              exact fun σ2 C2 H2 s2 R2 => h' _ C2 H2 s2 (R2.suiteOut nP (base.trans s2))
            | bk r2 =>
              simp only [es, unslot] at h'
              exact fun σ2 C2 H2 s2 R2 => h' _ C2 H2 s2 (R2.suiteOut nP (base.trans s2))
            | ct r2 =>
              simp only [es, unslot] at h'
              exact fun σ2 C2 H2 s2 R2 => h' _ C2 H2 s2 (R2.suiteOut nP (base.trans s2))
            | rt d r2 =>
              simp only [es, unslot] at h'
              exact fun v2 σ2 C2 H2 s2 R2 d2 => h' v2 _ C2 H2 s2 (R2.suiteOut nP (base.trans s2)) (d2.sub fun b ⟨j, hj⟩ => ⟨j, Own.ofSet hj⟩)
          · rw [if_neg hlr] at h
            exact h.elim
        · subst hb
          simp only [ec] at h
          exact k D c w r C C' H' σ' A dd v h hm s1 R1 hd dv
theorem dsTryL {body : List Stmt} {h0 : ExceptHandler} {hds : List ExceptHandler} {cl : List MCl} {mb : Rho → Fl} {pos : Pos} (hs : X.stack = X.env :: X.outer) (hf : X.env.frame = some X.env.locals) (tk : Takes X W)
    (hb : ∀ (W' : WX) (pn : List (Addr × Obj)) (xe : Value → Shared → Prop), Takes (X.tr pn xe) W' → DSs (X.tr pn xe) W' P mb body) (hcl : DCl X P cl (h0 :: hds)) : DS X W P (sTryL cl mb) (.Try body (h0 :: hds) [] [] pos) := by
  intro F hF
  obtain ⟨l, hl, k⟩ := hdsOf (W := W) hF hcl
  refine psImp (psTryL (Wout := W) (tb := fun W' => tS X F W' mb) hs hf tk (fun W' pn xe tk' _ => hb W' pn xe tk' F hF) hl) fun D σ H ⟨C, ρ, R, h⟩ => ⟨C, ρ, R, ?_⟩
  unfold sTryL at h
  cases e : mb ρ with
  | ex c w r =>
    simp only [e] at h
    exact fun σ' A dd v C' H' hm s1 R1 hd dv => k D c w r C C' H' σ' A dd v h hm s1 R1 hd dv
  | nx r =>
    simp only [e] at h
    exact h
  | bk r =>
    simp only [e] at h
    exact h
  | ct r =>
    simp only [e] at h
    exact h
  | rt d r =>
    simp only [e] at h
    exact h
  | bad =>
    simp only [e] at h
    exact h
end
end Dn
set_option maxHeartbeats 4000000
namespace Dn
open PySem PySem.Spec PyProof.Rows L2 HT
/-! ## sum(xs, ()) of a list of tuples -/
theorem ltS {h : Heap} {a : Addr} {o : Obj} (e : h.get? a = some o) : @LT.lt Nat _ a h.objs.size := Heap.lt_size e
theorem args_sum2 (a b : Value) : argsOk "sum" ⟨[a, b], []⟩ := by unfold argsOk; kernel_rfl
section
variable {prog : Program} {w : World} {A : Around} {R : Result → Shared → Prop} {E : Value → Shared → Prop} {s : Shared} {l I S : Addr} {its : Array Value} {tv : List (List Value)} {B : Heap} {Old : Addr → Prop}
theorem sumT_loop (hh : A.handled = none) (hI : l ≠ I) (hS : S ≠ I ∧ S ≠ l) (hB : B.objs.size ≤ I ∧ B.objs.size ≤ S)
    (hit : ∀ (i : Nat) (v : Value), its[i]? = some v → ∃ (t : Addr) (ws : List Value), v = Value.ref t ∧ tv[i]? = some ws ∧ IsTup B t ws.toArray ∧ Old t) (hn : its.size = tv.length) (hz : tv.flatten.length ≤ sizeLine) :
    ∀ (k i : Nat) (s : Shared) (T c : Nat), its.size - i = k → i ≤ its.size → s.heap.IsListIter I l i ∧ s.heap.IsList l its → s.heap.get? S = some { cls := .type "list", dict := none, data := .seq #[.ref T] c, slots := #[] } →
    (∀ b o, B.get? b = some o → s.heap.get? b = some o) → B.objs.size ≤ s.heap.objs.size → IsTup s.heap T ((tv.take i).flatten).toArray → T ≠ S → T ≠ I → (T < B.objs.size → Old T) →
    (∀ h' tk T', (∀ b o, B.get? b = some o → h'.get? b = some o) → IsTup h' T' tv.flatten.toArray → (T' < B.objs.size → Old T') → R (.ok (.ret (.ref T'))) { s with heap := h', toks := tk }) →
    codeAny (model prog w) A (.builtin "sum.loop" ⟨[.ref I, .ref S, rawInt 2, rawInt 0], []⟩) R s := by
  have W := Walks.list (prog := prog) (w := w) (A := A.in1) hh I l hI its
  have hSf : S ∉ [I, l] := fun h => by
    rcases List.mem_cons.mp h with e | h
    · exact hS.1 e
    · exact hS.2 (List.mem_singleton.mp h)
  intro k
  induction k with
  | zero =>
    intro i s T c hk hi hst hS' kp hsz hT nS nI old hR
    have hin : i = its.size := by omega
    subst hin
    refine codeAny_builtin F.entry_sum_loop ?_
    rw [Around.under_plainId F.plain_sum_loop _]
    show wpAny _ A.in1 (seqItems? (.ref S) >>= _) _ _ s
    refine wpAny_bind (wpAny_seqItems hS' rfl ?_)
    show wpAny _ A.in1 (tryCatch (pyNext (.ref I)) _ >>= _) _ _ s
    refine wpAny_bind (wpAny_tryCatch (W.done s _ _ hst fun h' tk hk' => ?_))
    have nB : ∀ b o, B.get? b = some o → b ∉ [I] := fun b o e z => by
      have h1 := ltS e
      have h2 : b = I := List.mem_singleton.mp z
      rw [h2] at h1
      omega
    refine wpAny_pure (hR h' tk T (fun b o e => hk' b o (nB b o e) (kp b o e)) ?_ old)
    rw [hn, List.take_length] at hT
    obtain ⟨o, ho, r⟩ := hT
    exact ⟨o, hk' T o (fun z => nI (List.mem_singleton.mp z)) ho, r⟩
  | succ k ih =>
    intro i s T c hk hi hst hS' kp hsz hT nS nI old hR
    have hlt : i < its.size := by omega
    refine codeAny_builtin F.entry_sum_loop ?_
    rw [Around.under_plainId F.plain_sum_loop _]
    show wpAny _ A.in1 (seqItems? (.ref S) >>= _) _ _ s
    refine wpAny_bind (wpAny_seqItems hS' rfl ?_)
    show wpAny _ A.in1 (tryCatch (pyNext (.ref I)) _ >>= _) _ _ s
    refine wpAny_bind (wpAny_tryCatch (W.item i s _ _ hlt hst fun v h' tk hP hst' hk' => ?_))
    obtain ⟨t, ws, rfl, hw, ht, ot⟩ := hit i v hP
    have keepI : ∀ b o, b ≠ I → s.heap.get? b = some o → h'.get? b = some o := fun b o hb e => hk' b o (fun z => hb (List.mem_singleton.mp z)) e
    have hS1 := keepI S _ hS.1 hS'
    have kp1 : ∀ b o, B.get? b = some o → h'.get? b = some o := fun b o e => keepI b o (Nat.ne_of_lt (Nat.lt_of_lt_of_le (ltS e) hB.1)) (kp b o e)
    have hT1 : IsTup h' T ((tv.take i).flatten).toArray := by
      obtain ⟨o, ho, r⟩ := hT
      exact ⟨o, keepI T o nI ho, r⟩
    have ht1 : IsTup h' t ws.toArray := by
      obtain ⟨o, ho, r⟩ := ht
      exact ⟨o, kp1 t o ho, r⟩
    have tB : t < B.objs.size := by
      obtain ⟨o, ho, r⟩ := ht
      exact ltS ho
    have hgrow : (tv.take (i + 1)).flatten = (tv.take i).flatten ++ ws := by
      rw [List.take_add_one, hw]
      simp
    have hsz1 : B.objs.size ≤ h'.objs.size := by
      have h1 := ltS hS1
      omega
    have hsum : ((tv.take i).flatten).length + ws.length ≤ sizeLine := by
      have e1 : ((tv.take (i + 1)).flatten).length ≤ tv.flatten.length := by
        have e2 := congrArg List.length (congrArg List.flatten (List.take_append_drop (i + 1) tv))
        rw [List.flatten_append, List.length_append] at e2
        omega
      rw [hgrow, List.length_append] at e1
      omega
    -- what happens behind the sum of two
    have rest : ∀ (T2 : Addr) (h2 : Heap), (∀ b o, h'.get? b = some o → h2.get? b = some o) → h'.objs.size ≤ h2.objs.size → IsTup h2 T2 (((tv.take i).flatten ++ ws)).toArray → T2 ≠ S → T2 ≠ I → (T2 < B.objs.size → Old T2) →
        wpAny (model prog w) A.in1 (updateSeq S (fun _ => #[Value.ref T2]) >>= fun _ => letGo [Value.ref T, Value.ref t] >>= fun _ => updateSeq S (fun _ => #[Value.ref T2]) >>= fun _ => again (.builtin "sum.loop" ⟨[.ref I, .ref S, rawInt 2, rawInt 0], []⟩))
          (fun fin s' => match fin with
            | .done f => R (.ok f) s'
            | .again c' => c'.quiet = true ∧ codeAny (model prog w) A c' R s') (fun e s' => R (.error e) s') { s with heap := h2, toks := tk } := by
      intro T2 h2 k2 z2 p2 n2 n3 o2
      have hS2 := k2 _ _ hS1
      refine wpAny_bind (wpAny_updateSeq hS2 rfl ?_)
      refine wpAny_bind (wpAny_letGo ?_)
      refine wpAny_bind (wpAny_updateSeq (Heap.get?_update_self _ hS2 rfl) rfl ?_)
      have oth : ∀ b o, b ≠ S → h2.get? b = some o → ((h2.update S (Obj.mapSeq fun _ => #[Value.ref T2])).update S (Obj.mapSeq fun _ => #[Value.ref T2])).get? b = some o := fun b o hb e =>
        (Heap.get?_update_other _ _ (Ne.symm hb)).trans ((Heap.get?_update_other _ _ (Ne.symm hb)).trans e)
      refine wpAny_pure ⟨plainId_quiet F.plain_sum_loop _, ih (i + 1) _ T2 _ (by omega) hlt ?_ (Heap.get?_update_self _ (Heap.get?_update_self _ hS2 rfl) rfl) (fun b o e => oth b o (Nat.ne_of_lt (Nat.lt_of_lt_of_le (ltS e) hB.2)) (k2 b o (kp1 b o e))) ?_ ?_ n2 n3 o2 fun h3 tk3 T3 a1 a2 a3 => hR h3 tk3 T3 a1 a2 a3⟩
      · exact W.frame _ _ _ hst' fun b hb o e => oth b o (fun z => hSf (z ▸ hb)) (k2 b o e)
      · simp only [Heap.size_update]
        omega
      · rw [hgrow]
        obtain ⟨o, ho, r⟩ := p2
        exact ⟨o, oth T2 o n2 ho, r⟩
    show wpAny _ A.in1 ((holding [Value.ref t] (binaryOp .Add (.ref T) (.ref t))).attempt >>= _) _ _ _
    refine wpAny_bind (wpAny_attempt (wpAny_holding ?_))
    by_cases hv : (tv.take i).flatten = []
    · rw [hv] at hT1
      refine cat_tup0 hT1 ht1 ?_
      exact rest t h' (fun _ _ z => z) (Nat.le_refl _) (by rw [hv]; exact ht1) (Nat.ne_of_lt (Nat.lt_of_lt_of_le tB hB.2)) (Nat.ne_of_lt (Nat.lt_of_lt_of_le tB hB.1)) fun _ => ot
    · refine cat_tup hT1 ht1 hv (fun hw0 => ?_) (fun hw0 => ?_) hsum
      · subst hw0
        exact rest T h' (fun _ _ z => z) (Nat.le_refl _) (by simpa using hT1) nS nI old
      · have lI := ltS hS1
        refine rest h'.objs.size _ (fun b o e => Heap.get?_push_of_some _ e) (by simp [Heap.size_push]) ⟨_, Heap.get?_push_size _ rfl, rfl, 0, rfl⟩ (Nat.ne_of_gt (ltS hS1)) ?_ (fun z => absurd z (Nat.not_lt.mpr hsz1))
        obtain ⟨o, ho, r⟩ := hst'.1
        exact Nat.ne_of_gt (ltS ho)
end

theorem sub_tup_str : isSubtype (.type "tuple") (.type "str") = pure false := by rw [isSubtype_type]; kernel_rfl
theorem sub_tup_bytes : isSubtype (.type "tuple") (.type "bytes") = pure false := by rw [isSubtype_type]; kernel_rfl
theorem sub_tup_bytearray : isSubtype (.type "tuple") (.type "bytearray") = pure false := by rw [isSubtype_type]; kernel_rfl
section
variable {prog : Program} {w : World} {A : Around} {E : Value → Shared → Prop} {s : Shared} {l t0 : Addr} {its : Array Value} {tv : List (List Value)} {Old : Addr → Prop}
theorem call_sumT {Q : Value → Shared → Prop} (hh : A.handled = none) (hl : s.heap.IsList l its) (h0 : IsTup s.heap t0 ([] : List Value).toArray) (o0 : Old t0)
    (hit : ∀ (i : Nat) (v : Value), its[i]? = some v → ∃ (t : Addr) (ws : List Value), v = Value.ref t ∧ tv[i]? = some ws ∧ IsTup s.heap t ws.toArray ∧ Old t) (hn : its.size = tv.length) (hz : tv.flatten.length ≤ sizeLine)
    (hQ : ∀ h' tk T', (∀ b o, s.heap.get? b = some o → h'.get? b = some o) → IsTup h' T' tv.flatten.toArray → (T' < s.heap.objs.size → Old T') → Q (.ref T') { s with heap := h', toks := tk }) :
    wpAny (model prog w) A (call (.builtin "sum") [.ref l, .ref t0]) Q E s := by
  refine call_function_tree F.kind_sum F.plain_sum F.entry_sum (args_sum2 _ _) ?_
  unfold Builtin.«sum»
  simp only [List.length_cons, List.length_nil]
  rw [if_neg (by decide)]
  refine wpAny_bind (wpAny_of_eq (show Builtin.Builtins.bindParams "sum" ["start"] 0 ⟨[.ref t0], []⟩ = pure [some (.ref t0)] from rfl) ?_)
  have hl' := hl
  obtain ⟨_, el, _⟩ := hl'
  have llt := ltS el
  refine wpAny_bind (wpAny_pyIter_list hl ?_)
  refine wpAny_bind (wpAny_pure ?_)
  simp only [List.forIn_cons, List.forIn_nil]
  have T0 : ∀ {h : Heap}, (∀ b o, s.heap.get? b = some o → h.get? b = some o) → IsTup h t0 ([] : List Value).toArray := fun k => by
    obtain ⟨o, ho, r⟩ := h0
    exact ⟨o, k _ _ ho, r⟩
  have kI : ∀ b o, s.heap.get? b = some o → (s.heap.push { cls := .type "list_iterator", data := .fields #[.ref l, .int 0 0] }).get? b = some o := fun b o e => Heap.get?_push_of_some _ e
  refine wpAny_bind (wpAny_bind (wpAny_bind (wpAny_isInstance (T := "tuple") (b := false) (T0 kI).typeIs sub_tup_str ?_)))
  simp only [Bool.false_eq_true, if_false]
  refine wpAny_pure (wpAny_bind (wpAny_bind (wpAny_isInstance (T := "tuple") (b := false) (T0 kI).typeIs sub_tup_bytes ?_)))
  simp only [Bool.false_eq_true, if_false]
  refine wpAny_pure (wpAny_bind (wpAny_bind (wpAny_isInstance (T := "tuple") (b := false) (T0 kI).typeIs sub_tup_bytearray ?_)))
  simp only [Bool.false_eq_true, if_false]
  refine wpAny_pure (wpAny_pure ?_)
  refine wpAny_bind (wpAny_newObj_type ?_)
  have sz1 : (s.heap.push { cls := .type "list_iterator", data := .fields #[.ref l, .int 0 0] }).objs.size = s.heap.objs.size + 1 := Heap.size_push ..
  refine wpAny_pure ⟨plainId_quiet F.plain_sum_loop _, sumT_loop (l := l) (I := s.heap.objs.size) (S := (s.heap.push { cls := .type "list_iterator", data := .fields #[.ref l, .int 0 0] }).objs.size) (B := s.heap) (Old := Old) hh (Nat.ne_of_lt llt) ⟨by rw [sz1]; exact Nat.ne_of_gt (Nat.lt_succ_self _), by rw [sz1]; exact Nat.ne_of_gt (Nat.lt_succ_of_lt llt)⟩
    ⟨Nat.le_refl _, by rw [sz1]; exact Nat.le_succ _⟩ hit hn hz its.size 0 _ t0 0 rfl (Nat.zero_le _) ⟨⟨_, Heap.get?_push_of_some _ (Heap.get?_push_size _ rfl), rfl, rfl⟩, (hl.push _).push _⟩ (Heap.get?_push_size _ rfl) (fun b o e => Heap.get?_push_of_some _ (kI b o e)) (by simp only [Heap.size_push]; omega) (T0 fun b o e => Heap.get?_push_of_some _ (kI b o e)) ?_ ?_ (fun _ => o0) fun h' tk T' k p o => hQ h' tk T' k p o⟩
  · obtain ⟨o, ho, _⟩ := h0
    exact Nat.ne_of_lt (by rw [sz1]; exact Nat.lt_succ_of_lt (ltS ho))
  · obtain ⟨o, ho, _⟩ := h0
    exact Nat.ne_of_lt (ltS ho)
end

theorem isMvInts : ∀ ns : List Int, isMv (ns.map PyData.int) = false
  | [] => rfl
  | n :: r => rfl
theorem valsInj : ∀ {a b : List Int} {ws : List Value}, Vals (a.map V.int) ws → Vals (b.map V.int) ws → a = b
  | [], [], _, _, _ => rfl
  | [], b :: bs, _, h, g => by
    cases h
    cases g
  | a :: as, [], _, h, g => by
    cases g
    cases h
  | a :: as, b :: bs, _, h, g => by
    cases h with
    | cons h1 h2 =>
      cases g with
      | cons g1 g2 =>
        obtain ⟨t, rfl⟩ := h1
        obtain ⟨u, e⟩ := g1
        cases e
        rw [valsInj h2 g2]
theorem valsFlat : ∀ {tv : List (List Value)} {ks : List (List Int)}, Paired (fun (ws : List Value) (k : List Int) => Vals (k.map V.int) ws) tv ks → Vals (ks.flatten.map V.int) tv.flatten
  | _, _, .nil => .nil
  | _, _, .cons h t => by
    simp only [List.flatten_cons, List.map_append]
    exact h.append (valsFlat t)
def bSumT : List PyData → Option PyData
  | [.list ds, .tuple []] => match tupsOf ds with
    | some ks => if ks.flatten.length ≤ 16777216 then some (tupD ks.flatten) else none
    | none => none
  | _ => none
theorem bSumT3 (a b c : PyData) (ds : List PyData) : bSumT (a :: b :: c :: ds) = none := by
  cases a <;> cases b <;> first | rfl | (rename_i y; cases y <;> rfl)
section
variable {X : Cx}
theorem kSumT (hc : X.calm = true) : CallR X (.builtin "sum") (rDs bSumT) := by
  intro pins s σ H xs us Q I r h
  obtain ⟨C, ds, d, e, sm, da, q⟩ := h
  cases da with
  | nil => cases e
  | cons d1 d2 =>
    cases d2 with
    | nil => cases d1 <;> cases e
    | cons d3 d4 =>
      cases d4 with
      | cons _ _ =>
        rw [bSumT3] at e
        cases e
      | nil =>
        cases d1 with
        | @lst p vs ds hs hd =>
          cases d3 with
          | @tup t0 ys es ht0 he0 =>
            cases he0 with
            | cons _ _ => cases e
            | nil =>
              simp only [bSumT] at e
              cases e1 : tupsOf ds with
              | none =>
                simp only [e1] at e
                cases e
              | some ks =>
                simp only [e1] at e
                split at e
                · rename_i hlen
                  cases e
                  obtain ⟨_, hp⟩ := tupsOk hd e1
                  have hsX : SqL X.K H p vs := upL (sm.seq hs)
                  obtain ⟨its, rv, hl, _⟩ := I.list hsX
                  cases r with
                  | cons r1 r2 =>
                    cases r2 with
                    | cons r3 r4 =>
                      cases r4
                      cases r1
                      cases r3
                      have old : ∀ {t : Addr} {k : List Int}, SqT KD C t (k.map V.int) → ∃ ws, Vals (k.map V.int) ws ∧ IsTup s.heap t ws.toArray := fun z => by
                        obtain ⟨its, r, h, _⟩ := I.tuple (upT (sameT sm z))
                        exact ⟨its, r, h⟩
                      have mk : ∀ {vs : List V} {ks : List (List Int)}, Paired (fun (v : V) (k : List Int) => k ≠ [] ∧ ∃ t, v = .ref t ∧ SqT KD C t (k.map V.int)) vs ks →
                          ∃ tv : List (List Value), tv.length = vs.length ∧ Paired (fun (ws : List Value) (k : List Int) => Vals (k.map V.int) ws) tv ks ∧ Paired (fun (v : V) (ws : List Value) => ∃ t, v = .ref t ∧ IsTup s.heap t ws.toArray ∧ ∃ k : List Int, SqT KD C t (k.map V.int)) vs tv := by
                        intro vs ks h
                        induction h with
                        | nil => exact ⟨[], rfl, .nil, .nil⟩
                        | cons h _ ih =>
                          obtain ⟨_, t, rfl, z⟩ := h
                          obtain ⟨ws, w1, w2⟩ := old z
                          obtain ⟨tv, a1, a2, a3⟩ := ih
                          exact ⟨ws :: tv, by simp [a1], .cons w1 a2, .cons ⟨t, rfl, w2, _, z⟩ a3⟩
                      obtain ⟨tv, a1, a2, a3⟩ := mk hp
                      have vf := valsFlat a2
                      have lf := vf.length
                      rw [List.length_map] at lf
                      have hw0 : ∃ ws, Vals (([] : List Int).map V.int) ws ∧ IsTup s.heap t0 ws.toArray := old ht0
                      obtain ⟨ws0, v0, p0⟩ := hw0
                      cases v0
                      refine call_sumT (Old := fun t => ∃ k : List Int, SqT KD C t (k.map V.int)) (tv := tv) (I.ok.hd hc) hl.isList p0 ⟨[], ht0⟩ (fun i v hv => ?_) (by rw [List.size_toArray, ← rv.length, a1]) (lineLe (by omega)) fun h' tk T' k pT oT => ?_
                      · rw [List.getElem?_toArray] at hv
                        have hv2 : ∃ x, vs[i]? = some x ∧ RelV x v := by
                          have hi := (List.getElem?_eq_some_iff.mp hv).1
                          have hi2 : i < vs.length := by rw [rv.length]; exact hi
                          obtain ⟨u, e2, e3⟩ := rv.get (List.getElem?_eq_getElem hi2)
                          rw [hv] at e2
                          cases e2
                          exact ⟨vs[i], List.getElem?_eq_getElem hi2, e3⟩
                        obtain ⟨x, hx, rx⟩ := hv2
                        obtain ⟨ws, hw, t, rfl, pt, ot⟩ := pairGet a3 hx
                        exact ⟨t, ws, rx, hw, pt, ot⟩
                      · by_cases hlt : T' < s.heap.objs.size
                        · obtain ⟨k2, hk2⟩ := oT hlt
                          obtain ⟨ws, v1, o, ho, h1, n1, h2⟩ := old hk2
                          obtain ⟨o', ho', h1', n1', h2'⟩ := pT
                          rw [k _ _ ho] at ho'
                          cases ho'
                          rw [h2] at h2'
                          simp only [Data.seq.injEq] at h2'
                          have ew : ws = tv.flatten := by
                            have := congrArg Array.toList h2'.1
                            simpa using this
                          rw [ew] at v1
                          have ek := valsInj v1 vf
                          subst ek
                          exact ⟨.ref T', H, I.kept (t' := tk) k, rfl, q _ C H (Ext.refl sm) (.tup hk2 (dpaInts _))⟩
                        · have hge := Nat.not_lt.mp hlt
                          have hn : H T' = none := I.hok.fresh hge
                          obtain ⟨x1, x2⟩ := coldT sm hn (dpaInts (K := KD) (C := C) ks.flatten) (isMvInts _)
                          exact ⟨.ref T', upd H T' (.tup (ks.flatten.map V.int)), I.laid (t' := tk) k hge ⟨by rw [List.length_map]; exact lineLe hlen, tv.flatten, vf, pT⟩, rfl, q _ _ _ x1 x2⟩
                · cases e
          | _ => first | cases e | (rename_i z; cases z <;> cases e)
        | _ => cases e
end
end Dn
set_option maxHeartbeats 4000000
namespace Dn
open PySem PySem.Spec PyProof.Rows L2
/-! ## a if t else b, both new lists -/
theorem pofMono {X : Cx} {F : Fr0} {W : WX} {C C' : Hp} {σ : L2.St} {Q : VK} {o : Out (List PyData)} (h : PoF X F W C σ Q o) (s : Same C C') : PoF X F W C' σ Q o := by
  cases o with
  | ok ds r => exact fun p ws C2 H' h1 => h p ws C2 H' (s.trans h1)
  | ex c w r => exact XP.mono h s
  | bad => exact h
def mIfL (t : Mi Bool) (ma mb : Mi (List PyData)) : Mi (List PyData) := t.bind fun k => if k then ma else mb
theorem dfIf {X : Cx} {W : WX} {P : Pn} {a b c : Expr} {ka : Mi Bool} {ma mb : Mi (List PyData)} {pos : Pos} (ht : DT X W P ka c) (ha : DF X W P ma a) (hb : DF X W P mb b) : DF X W P (mIfL ka ma mb) (.IfExp c a b pos) :=
  fun F hF => peImp (pe_ifExp (ht F hF) (ha F hF) (hb F hF)) fun σ H Q ⟨C, ρ, R, h⟩ => ⟨C, ρ, R, by
    unfold mIfL Mi.bind at h
    cases e : ka ρ with
    | ok k r =>
      rw [e] at h
      intro x C1 H1 s1 R1 d1
      have d1' : x = k := d1
      subst d1'
      cases x with
      | false =>
        simp only [Bool.false_eq_true, if_false] at h
        exact iteF ⟨C1, r, R1, pofMono h s1⟩
      | true =>
        simp only [if_true] at h
        exact iteT ⟨C1, r, R1, pofMono h s1⟩
    | ex c w r =>
      rw [e] at h
      exact h
    | bad =>
      rw [e] at h
      exact h⟩
end Dn
set_option maxHeartbeats 4000000
namespace SrtO
open PySem PySem.Spec PySem.Calls PyProof.Rows Srt
variable {prog : Program} {w : World} {A : Around} {E : Value → Shared → Prop} {s : Shared}
/-- what a tuple gives, one by one -/
theorem gatherT {l : Addr} {vs : List Value} {Q : List Value → Shared → Prop} (hl : IsTup s.heap l vs.toArray)
    (h : Q vs { s with heap := (s.heap.push (seqObj "list" #[] 0)).update s.heap.objs.size (Obj.mapSeq (· ++ vs.toArray)) }) (hsz : vs.length ≤ sizeLine) :
    wpAny (model prog w) A (collect (.ref l)) Q E s := by
  obtain ⟨o, ho, hc, n, hd⟩ := id hl; unfold collect; refine wpAny_bind (wpAny_runValue (codeAny_builtin entry_proto_collect' ?_))
  (show wpAny _ _ (do again (.builtin "list.__iadd__" ⟨[← newList [], .ref l], []⟩)) _ _ s); (refine wpAny_bind (wpAny_newList (wpAny_pure ⟨Code.quiet_builtin _ (by decide +kernel), codeAny_builtin entry_list_iadd' ?_⟩)))
  (show wpAny _ _ (Builtin.List.listExtendWith (.ref s.heap.objs.size) (.ref l) (.ref s.heap.objs.size)) _ _ { s with heap := s.heap.push (seqObj "list" #[] 0) }); unfold Builtin.List.listExtendWith
  have up : (s.heap.push (seqObj "list" #[] 0)).get? l = some o := Heap.get?_push_of_some _ ho
  refine wpAny_bind (wpAny_typeOf (T := "tuple") ⟨o, up, hc⟩ ?_); rw [if_pos (by rw [show (Value.type "tuple" == Value.type "tuple") = true by rfl]; simp)]
  refine wpAny_bind (listItems_at up hd (wpAny_bind (listItems_at (xs := #[]) (n := 0) (Heap.get?_push_size _ rfl) rfl ?_)))
  (rw [if_neg (by simp)]); (refine wpAny_bind (listUpdate_at (xs := #[]) (n := 0) (Heap.get?_push_size _ rfl) rfl (wpAny_pure ?_) (Nat.zero_le _) (by show (#[] ++ vs.toArray).size ≤ sizeLine + 1; simp only [Array.size_append, List.size_toArray, List.length_nil]; omega)))
  (show wpAny (model prog w) A (do let o ← load s.heap.objs.size; match o.data with | .seq xs _ => pure xs.toList | _ => unsupported "internal:collect") Q E { s with heap := (s.heap.push (seqObj "list" #[] 0)).update s.heap.objs.size (Obj.mapSeq (· ++ vs.toArray)) })
  refine wpAny_bind (wpAny_load (get?_update_seq (Heap.get?_push_size _ rfl) _) ?_); (show wpAny _ _ (pure ((#[] : Array Value) ++ vs.toArray).toList) Q E _)
  rw [show ((#[] : Array Value) ++ vs.toArray).toList = vs by simp]; exact wpAny_pure h
theorem sortedT {l : Addr} {vs : List Value} {ltv : Value → Value → Bool} {Q : Value → Shared → Prop} (O : Swo ltv) (hl : IsTup s.heap l vs.toArray) (hz : vs.length ≤ sizeLine)
    (hS : 2 ≤ vs.length → ∀ (h₁ : Heap) (a : Addr), h₁.get? a = some (seqObj "list" vs.toArray 0) → (∀ b o, s.heap.get? b = some o → b ≠ a ∧ h₁.get? b = some o) → SortableO prog w A.in1.in1 { s with heap := h₁ } a vs ltv)
    (h : ∀ out : List Value, Srtd ltv out → Stb ltv out vs → Q (.ref (s.heap.objs.size + 1)) { s with heap := sortedAll s.heap vs out.toArray }) :
    wpAny (model prog w) A (call (.builtin "sorted") [.ref l]) Q E s := by
  (refine Calls.call_function_entry kind_sorted plain_sorted entry_sorted (args_sorted1 _) ?_); unfold Builtin.«sorted»
  refine wpAny_bind (m := checkCount "sorted" 1 1 _) (wpAny_pure (wpAny_bind (gatherT hl (wpAny_bind (wpAny_newList ?_ hz)) hz)))
  have sz1 : ((s.heap.push (seqObj "list" #[] 0)).update s.heap.objs.size (Obj.mapSeq (· ++ vs.toArray))).objs.size = s.heap.objs.size + 1 := (Heap.size_update _ _ _).trans (size_push' _ _)
  have at1 : (((s.heap.push (seqObj "list" #[] 0)).update s.heap.objs.size (Obj.mapSeq (· ++ vs.toArray))).push (seqObj "list" vs.toArray 0)).get? (s.heap.objs.size + 1) = some (seqObj "list" vs.toArray 0) := sz1 ▸ Heap.get?_push_size _ rfl
  have old1 : ∀ b o, s.heap.get? b = some o → b ≠ s.heap.objs.size + 1 ∧ (((s.heap.push (seqObj "list" #[] 0)).update s.heap.objs.size (Obj.mapSeq (· ++ vs.toArray))).push (seqObj "list" vs.toArray 0)).get? b = some o := fun b o q => by
    have lt : b < s.heap.objs.size := Heap.lt_size q
    exact ⟨Nat.ne_of_lt (Nat.lt_succ_of_lt lt), Heap.get?_push_of_some _ (by rw [Heap.get?_update_ne _ _ _ _ (Nat.ne_of_lt lt)]; exact Heap.get?_push_of_some _ q)⟩
  (show wpAny _ _ _ _ _ { s with heap := ((s.heap.push (seqObj "list" #[] 0)).update s.heap.objs.size (Obj.mapSeq (· ++ vs.toArray))).push (seqObj "list" vs.toArray 0) }); rw [sz1]
  (refine wpAny_bind (wpAny_holding (wpAny_call_entry slot_list_sort ⟨_, at1, rfl⟩ entry_list_sort (list_sort_ord O at1 hz (fun h2 => hS h2 _ _ at1 old1) fun out hs hb => ⟨_, rfl, wpAny_pure ⟨_, rfl, h out hs hb⟩⟩) (args_list_sort _))))
end SrtO
namespace Dn
open PySem PySem.Spec PyProof.Rows L2
def bSort2 : List PyData → Option PyData
  | [.tuple ds] => (intsOf ds).map fun ns => .list ((srtI ns).map .int)
  | ds => bSort ds
theorem kSort2 {X : Cx} : CallR X (.builtin "sorted") (rDs bSort2) := by
  intro pins s σ H xs us Q I r h
  obtain ⟨C, ds, d, e, sm, da, q⟩ := id h
  have other : bSort2 ds = bSort ds → wpAny (model X.prog X.w) X.A (call (.builtin "sorted") us) (EP X pins σ Q) X.xe s := fun z => kSort pins s σ H xs us Q I r ⟨C, ds, d, by rw [← z]; exact e, sm, da, q⟩
  cases da with
  | nil => exact other rfl
  | cons d1 d2 =>
    cases d2 with
    | cons _ _ => exact other (by cases d1 <;> rfl)
    | nil =>
      cases d1 with
      | @tup p vs ds hs hd =>
        simp only [bSort2, Option.map_eq_some_iff] at e
        obtain ⟨ns, e1, rfl⟩ := e
        obtain ⟨rfl, rfl⟩ := intsOk hd e1
        obtain ⟨its, rv, hl, hz⟩ := I.tuple (upT (sameT sm hs))
        rw [Vals.ref1 r]
        have hi := rv.ints
        refine SrtO.sortedT SrtO.swo_int (l := p) (vs := its) hl (by rw [← rv.length]; exact hz) (fun h2 h₁ a' _ _ => SrtO.ints_sortable hi h2) fun out h1 h2 => ?_
        obtain ⟨k1, k2, k3⟩ := SrtO.ints_out hi h1 h2
        obtain ⟨ep, he'⟩ := PyProof.Rows.sortedAll_at s.heap its out.toArray
        have hlen : ((srtI ns).map V.int).length ≤ sizeLine := by rw [List.length_map, (srtI_perm ns).length_eq]; rw [List.length_map] at hz; exact hz
        have hn : H (s.heap.objs.size + 1) = none := I.hok.fresh (Nat.le_succ _)
        have eo := srtI_uniq k2 k3
        rw [eo] at k1
        have ex : Ext C H (upd C (s.heap.objs.size + 1) (.lst ((srtI ns).map V.int))) (upd H (s.heap.objs.size + 1) (.lst ((srtI ns).map V.int))) := Ext.new sm hn
        exact ⟨.ref _, upd H (s.heap.objs.size + 1) (.lst ((srtI ns).map V.int)), I.laid (t' := s.toks) (fun _ _ => PyProof.Rows.sortedAll_old) (Nat.le_succ _) ⟨hlen, out, ep, vals_of_ints k1, he'⟩, rfl, q _ _ _ ex (.lst (.inl (.inl upd_same)) (dpaInts _))⟩
      | _ => exact other rfl
end Dn
set_option maxHeartbeats 4000000
namespace Sh
open PySem PySem.Spec PyProof.Rows L2 Dn
def b_is_number : Rho → Fl := sRet (mAnd (mIsi "int" (mVar 0)) (mNot (mIsi "bool" (mVar 0))))
def f_is_number : List Ent → FO := fnM b_is_number 1 []
def b_is_from : Rho → Fl := sRet (mAnd (mCall f_is_number (aVal (mVar 0) (aNil))) (mChain cLe cLe (mVar 1) (mVar 0) (mVar 2)))
def f_is_from : List Ent → FO := fnM b_is_from 3 []
def b_is_index : Rho → Fl := sRet (mCall f_is_from (aVal (mVar 0) (aVal (Mi.ret (.int 0)) (aVal (mBin fSub (mVar 1) (Mi.ret (.int 1))) (aNil)))))
def f_is_index : List Ent → FO := fnM b_is_index 2 []
def b_is_tuple_of : Rho → Fl := sRet (mAnd (mIsi "tuple" (mVar 0)) (mChain cLe cLe (mVar 1) (mLenV 0) (mVar 2)))
def f_is_tuple_of : List Ent → FO := fnM b_is_tuple_of 3 []
def l_is_ascending_0 : Rho → Fl := sSeq (sIf (tOrM (tNotM (mTru (mCall f_is_number (aVal (mVar 3) (aNil))))) (tNotM (mTChain cLt cLt (mVar 2) (mVar 3) (mVar 1)))) (sRet (Mi.ret (.bool false))) (fun r => .nx r)) (sSet 2 (mVar 3))
def b_is_ascending : Rho → Fl := sSeq (sIf (tNotM (mTru (mIsi "tuple" (mVar 0)))) (sRet (Mi.ret (.bool false))) (fun r => .nx r)) (sSeq (sSet 2 (mNeg (Mi.ret (.int 1)))) (sSeq (sFor (mIter (mVar 0)) (gNm 3) l_is_ascending_0) (sRet (Mi.ret (.bool true)))))
def f_is_ascending : List Ent → FO := fnM b_is_ascending 4 []
def l_wrong_cures_0 : Rho → Fl := sIf (tNotM (mTru (mCall f_is_ascending (aVal (mVar 4) (aVal (mVar 2) (aNil)))))) (sRet (mTup (mCons (Mi.ret (.int 2)) (mCons (mVar 3) (mNil))))) (fun r => .nx r)
def b_wrong_cures : Rho → Fl := sSeq (sIf (tNotM (mTru (mCall f_is_tuple_of (aVal (mVar 0) (aVal (mVar 1) (aVal (mVar 1) (aNil))))))) (sRet (mTup (mCons (Mi.ret (.int 2)) (mCons (mNeg (Mi.ret (.int 1))) (mNil))))) (fun r => .nx r)) (sSeq (sFor (mEnum (mVar 0)) (gTp 2 (gCn (gNm 3) (gCn (gNm 4) (gN0)))) l_wrong_cures_0) (sRet (Mi.ret .none)))
def f_wrong_cures : List Ent → FO := fnM b_wrong_cures 5 []
def t_are_signs_0 : Mi Bool := Mi.ret true
def e_are_signs_0 : Mi PyData := mCall f_is_from (aVal (mVar 2) (aVal (Mi.ret (.int 0)) (aVal (Mi.ret (.int 9)) (aNil))))
def b_are_signs : Rho → Fl := sSeq (sIf (tNotM (mTru (mCall f_is_tuple_of (aVal (mVar 0) (aVal (mVar 1) (aVal (mVar 1) (aNil))))))) (sRet (Mi.ret (.bool false))) (fun r => .nx r)) (sRet (mBlt bAll (mCons (mOfF (mComp (mIter (mVar 0)) (gNm 2) t_are_signs_0 e_are_signs_0 [2])) (mNil))))
def f_are_signs : List Ent → FO := fnM b_are_signs 3 []
def l_wrong_signs_0 : Rho → Fl := sIf (tNotM (mTru (mCall f_are_signs (aVal (mVar 3) (aVal (mVar 1) (aNil)))))) (sRet (mTup (mCons (Mi.ret (.int 3)) (mCons (mVar 2) (mNil))))) (fun r => .nx r)
def b_wrong_signs : Rho → Fl := sSeq (sIf (tNotM (mTru (mCall f_is_tuple_of (aVal (mVar 0) (aVal (Mi.ret (.int 1)) (aVal (Mi.ret (.int 40)) (aNil))))))) (sRet (mTup (mCons (Mi.ret (.int 3)) (mCons (mNeg (Mi.ret (.int 1))) (mNil))))) (fun r => .nx r)) (sSeq (sFor (mEnum (mVar 0)) (gTp 2 (gCn (gNm 2) (gCn (gNm 3) (gN0)))) l_wrong_signs_0) (sRet (Mi.ret .none)))
def f_wrong_signs : List Ent → FO := fnM b_wrong_signs 4 []
def l_wrong_moves_0 : Rho → Fl := sSeq (sIf (tNotM (tAndM (mTru (mCall f_is_tuple_of (aVal (mVar 4) (aVal (Mi.ret (.int 2)) (aVal (Mi.ret (.int 2)) (aNil)))))) (tAndM (mTru (mCall f_is_ascending (aVal (mVar 4) (aVal (mVar 1) (aNil))))) (mTst cLt (mVar 2) (mVar 4))))) (sRet (mTup (mCons (Mi.ret (.int 4)) (mCons (mVar 3) (mNil))))) (fun r => .nx r)) (sSet 2 (mVar 4))
def b_wrong_moves : Rho → Fl := sSeq (sIf (tNotM (mTru (mCall f_is_tuple_of (aVal (mVar 0) (aVal (Mi.ret (.int 0)) (aVal (Mi.ret (.int 200)) (aNil))))))) (sRet (mTup (mCons (Mi.ret (.int 4)) (mCons (mNeg (Mi.ret (.int 1))) (mNil))))) (fun r => .nx r)) (sSeq (sSet 2 (mTup (mCons (mNeg (Mi.ret (.int 1))) (mCons (mNeg (Mi.ret (.int 1))) (mNil))))) (sSeq (sFor (mEnum (mVar 0)) (gTp 2 (gCn (gNm 3) (gCn (gNm 4) (gN0)))) l_wrong_moves_0) (sRet (Mi.ret .none))))
def f_wrong_moves : List Ent → FO := fnM b_wrong_moves 5 []
def b_wrong_place : Rho → Fl := sSeq (sIf (tNotM (mTru (mCall f_is_tuple_of (aVal (mVar 0) (aVal (Mi.ret (.int 5)) (aVal (Mi.ret (.int 5)) (aNil))))))) (sRet (mTup (mCons (mNeg (Mi.ret (.int 1))) (mNil)))) (fun r => .nx r)) (sSeq (sAsg (gTp 5 (gCn (gNm 1) (gCn (gNm 2) (gCn (gNm 3) (gCn (gNm 4) (gCn (gNm 5) (gN0))))))) (mVar 0)) (sSeq (sIf (tNotM (mTru (mCall f_is_from (aVal (mVar 1) (aVal (Mi.ret (.int 1)) (aVal (Mi.ret (.int 24)) (aNil))))))) (sRet (mTup (mCons (Mi.ret (.int 0)) (mNil)))) (fun r => .nx r)) (sSeq (sIf (tNotM (mTru (mCall f_is_from (aVal (mVar 2) (aVal (Mi.ret (.int 1)) (aVal (Mi.ret (.int 16)) (aNil))))))) (sRet (mTup (mCons (Mi.ret (.int 1)) (mNil)))) (fun r => .nx r)) (sRet (mOr (mCall f_wrong_cures (aVal (mVar 3) (aVal (mVar 1) (aVal (mVar 2) (aNil))))) (mOr (mCall f_wrong_signs (aVal (mVar 4) (aVal (mVar 1) (aNil)))) (mCall f_wrong_moves (aVal (mVar 5) (aVal (mLenV 4) (aNil))))))))))
def f_wrong_place : List Ent → FO := fnM b_wrong_place 6 []
def b_made_rig : Rho → Fl := sSeq (sSet 1 (mCall f_wrong_place (aVal (mVar 0) (aNil)))) (sSeq (sIf (tNotNM (mVar 1)) (sRaise "BadRig" (mVar 1)) (fun r => .nx r)) (sRet (mVar 0)))
def f_made_rig : List Ent → FO := fnM b_made_rig 2 []
def b_check_setting : Rho → Fl := sIf (tNotM (mTru (mCall f_is_index (aVal (mVar 1) (aVal (mBlt bLen (mCons (mIxV 0 (Mi.ret (.int 3))) (mNil))) (aNil)))))) (sRaise "BadSetting" (mVar 1)) (fun r => .nx r)
def f_check_setting : List Ent → FO := fnM b_check_setting 2 []
def b_check_lot : Rho → Fl := sIf (tNotM (mTru (mCall f_is_ascending (aVal (mVar 1) (aVal (mIxV 0 (Mi.ret (.int 0))) (aNil)))))) (sRaise "BadLot" (mNeg (Mi.ret (.int 1)))) (fun r => .nx r)
def f_check_lot : List Ent → FO := fnM b_check_lot 2 []
def b_check_rig_and_lot : Rho → Fl := sSeq (sExpr (mCall f_made_rig (aVal (mVar 0) (aNil)))) (sExpr (mCall f_check_lot (aVal (mVar 0) (aVal (mVar 1) (aNil)))))
def f_check_rig_and_lot : List Ent → FO := fnM b_check_rig_and_lot 2 []
def l_parts_at_0 : Rho → Fl := sDLApp 4 5 (mIxV 3 (mVar 5))
def t_parts_at_1 : Mi Bool := Mi.ret true
def e_parts_at_1 : Mi PyData := mTup (mCons (mVar 6) (mCons (mTupDL 4 (mVar 6)) (mNil)))
def b_parts_at : Rho → Fl := sSeq (sSet 3 (mBin fIx (mIxV 0 (Mi.ret (.int 3))) (mVar 2))) (sSeq (sSetE 4 (mDictL0)) (sSeq (sFor (mIter (mVar 1)) (gNm 5) l_parts_at_0) (sRet (mBlt bTup (mCons (mOfF (mComp (mIter (mSortD 4)) (gNm 6) t_parts_at_1 e_parts_at_1 [6])) (mNil))))))
def f_parts_at : List Ent → FO := fnM b_parts_at 7 []
def b_has_parts : Rho → Fl := sRet (mBin (fB cGt) (mBlt bLen (mCons (mCall f_parts_at (aVal (mVar 0) (aVal (mVar 1) (aVal (mVar 2) (aNil))))) (mNil))) (Mi.ret (.int 1)))
def f_has_parts : List Ent → FO := fnM b_has_parts 3 []
def b_one_sign : Rho → Fl := sSeq (sExpr (mCall f_check_rig_and_lot (aVal (mVar 0) (aVal (mVar 1) (aNil))))) (sSeq (sExpr (mCall f_check_setting (aVal (mVar 0) (aVal (mVar 2) (aNil))))) (sRet (mNot (mCall f_has_parts (aVal (mVar 0) (aVal (mVar 1) (aVal (mVar 2) (aNil))))))))
def f_one_sign : List Ent → FO := fnM b_one_sign 3 []
def b_parted : Rho → Fl := sSeq (sExpr (mCall f_check_rig_and_lot (aVal (mVar 0) (aVal (mVar 1) (aNil))))) (sSeq (sExpr (mCall f_check_setting (aVal (mVar 0) (aVal (mVar 2) (aNil))))) (sRet (mCall f_parts_at (aVal (mVar 0) (aVal (mVar 1) (aVal (mVar 2) (aNil)))))))
def f_parted : List Ent → FO := fnM b_parted 3 []
def b_law_pool : Rho → Fl := sSeq (sSet 2 (Mi.ret (.int 0))) (sSeq (sIf (mTst cLt (mVar 1) (mLenV 0)) (sSet 2 (mIxV 0 (mVar 1))) (sIf (mTst cNe (mVar 0) (mLst (mNil))) (sSet 2 (mIxV 0 (Mi.ret (.int 0)))) (fun r => .nx r))) (sSeq (sSet 3 (mBlt bMax (mCons (mBlt bInt (mCons (mVar 2) (mNil))) (mCons (mBlt bInt (mCons (mBin fSub (mNeg (Mi.ret (.int 1))) (mVar 2)) (mNil))) (mNil))))) (sSeq (sSet 4 (mBin fMod (mBlt bInt (mCons (mBin fMul (mBin fAdd (mBin fAdd (mBin fAdd (mBin fMod (mBlt bInt (mCons (mVar 3) (mNil))) (Mi.ret (.int 2147483629))) (mBin fMul (mBin fMul (Mi.ret (.int 7919)) (mVar 1)) (mVar 1))) (mBin fMul (Mi.ret (.int 31)) (mVar 1))) (Mi.ret (.int 17))) (Mi.ret (.int 48271))) (mNil))) (Mi.ret (.int 2147483647)))) (sRetF (mCons (mBin fMul (mVar 3) (mBlt bInt (mCons (mAnd (mBin (fB cGe) (mVar 3) (mBin fPow (Mi.ret (.int 10)) (Mi.ret (.int 18)))) (mBin (fB cLt) (mVar 1) (mLenV 0))) (mNil)))) (mCons (mVar 4) (mNil)))))))
def f_law_pool : List Ent → FO := fnM b_law_pool 5 []
def b_law_take : Rho → Fl := sSeq (sIf (mTst cGt (mIxV 0 (Mi.ret (.int 0))) (Mi.ret (.int 0))) (sSeq (sSet 2 (mBin fMod (mBlt bInt (mCons (mIxV 0 (Mi.ret (.int 0))) (mNil))) (mVar 1))) (sSeq (sStore 0 (Mi.ret (.int 0)) (mBin fDiv (mIxV 0 (Mi.ret (.int 0))) (mVar 1))) (sRet (mVar 2)))) (fun r => .nx r)) (sSeq (sStore 0 (Mi.ret (.int 1)) (mBin fMod (mBlt bInt (mCons (mBin fAdd (mBin fMul (mIxV 0 (Mi.ret (.int 1))) (Mi.ret (.int 39373))) (Mi.ret (.int 7))) (mNil))) (Mi.ret (.int 2147483647)))) (sRet (mBin fMod (mBlt bInt (mCons (mBin fDiv (mBin fMod (mBlt bInt (mCons (mBin fMul (mIxV 0 (Mi.ret (.int 1))) (mIxV 0 (Mi.ret (.int 1)))) (mNil))) (Mi.ret (.int 2147483629))) (Mi.ret (.int 32))) (mNil))) (mVar 1))))
def f_law_take : List Ent → FO := fnM b_law_take 3 [0]
def b_law_one : Rho → Fl := sRet (mIxV 1 (mCall f_law_take (aHot 0 (aVal (mLenV 1) (aNil)))))
def f_law_one : List Ent → FO := fnM b_law_one 2 [0]
def t_law_some_0 : Mi Bool := mTst cEq (mCall f_law_take (aHot 0 (aVal (Mi.ret (.int 2)) (aNil)))) (Mi.ret (.int 1))
def e_law_some_0 : Mi PyData := mVar 2
def b_law_some : Rho → Fl := sRet (mOfF (mComp (mIter (mVar 1)) (gNm 2) t_law_some_0 e_law_some_0 [2]))
def f_law_some : List Ent → FO := fnM b_law_some 3 [0]
def l_law_joined_moves_0 : Rho → Fl := sSeq (sSet 4 (mCall f_law_take (aHot 0 (aVal (mVar 3) (aNil))))) (sIf (mTst cGt (mCall f_law_take (aHot 0 (aVal (Mi.ret (.int 9)) (aNil)))) (Mi.ret (.int 0))) (sApp 2 (mTup (mCons (mVar 4) (mCons (mVar 3) (mNil))))) (fun r => .nx r))
def l_law_joined_moves_1 : Rho → Fl := sSeq (sPar 4 3 (mCons (mCall f_law_take (aHot 0 (aVal (mVar 1) (aNil)))) (mCons (mCall f_law_take (aHot 0 (aVal (mVar 1) (aNil)))) (mNil)))) (sIf (tAndM (mTst cNe (mVar 4) (mVar 3)) (mTstR cNotIn (mTup (mCons (mBlt bMin (mCons (mVar 4) (mCons (mVar 3) (mNil)))) (mCons (mBlt bMax (mCons (mVar 4) (mCons (mVar 3) (mNil)))) (mNil)))) 2)) (sApp 2 (mTup (mCons (mBlt bMin (mCons (mVar 4) (mCons (mVar 3) (mNil)))) (mCons (mBlt bMax (mCons (mVar 4) (mCons (mVar 3) (mNil)))) (mNil))))) (fun r => .nx r))
def b_law_joined_moves : Rho → Fl := sSeq (sSetHot 2 (mNil)) (sSeq (sFor (mRng rng2 (mCons (Mi.ret (.int 1)) (mCons (mVar 1) (mNil)))) (gNm 3) l_law_joined_moves_0) (sSeq (sFor (mRng rng1 (mCons (mCall f_law_take (aHot 0 (aVal (mVar 1) (aNil)))) (mNil))) (gNm 5) l_law_joined_moves_1) (sRet (mBlt bTup (mCons (mBlt bSort (mCons (mVar 2) (mNil))) (mNil))))))
def f_law_joined_moves : List Ent → FO := fnM b_law_joined_moves 6 [0]
def t_law_signs_0 : Mi Bool := Mi.ret true
def e_law_signs_0 : Mi PyData := mBin fAdd (mVar 7) (mBlt bInt (mCons (mBin (fB cEq) (mVar 8) (mVar 6)) (mNil)))
def t_law_signs_1 : Mi Bool := Mi.ret true
def e_law_signs_1 : Mi PyData := mBin fAdd (mVar 7) (mCall f_law_take (aHot 0 (aVal (mBin fSub (mVar 5) (Mi.ret (.int 2))) (aNil))))
def l_law_signs_2 : Rho → Fl := sSeq (sSet 5 (mCall f_law_take (aHot 0 (aVal (Mi.ret (.int 6)) (aNil))))) (sSeq (sAsg (gTp 2 (gCn (gNm 6) (gCn (gNm 7) (gN0)))) (mTup (mCons (mCall f_law_take (aHot 0 (aVal (mVar 1) (aNil)))) (mCons (mCall f_law_take (aHot 0 (aVal (Mi.ret (.int 3)) (aNil)))) (mNil))))) (sIf (tOrM (mTst cEq (mVar 5) (Mi.ret (.int 0))) (tAndM (mTst cEq (mVar 4) (Mi.ret (.int 0))) (mTst cLt (mVar 5) (Mi.ret (.int 4))))) (sApp 3 (mBin fMul (mTup (mCons (mVar 7) (mNil))) (mVar 1))) (sIf (mTst cLt (mVar 5) (Mi.ret (.int 4))) (sApp 3 (mBlt bTup (mCons (mOfF (mComp (mRng rng1 (mCons (mVar 1) (mNil))) (gNm 8) t_law_signs_0 e_law_signs_0 [8])) (mNil)))) (sApp 3 (mBlt bTup (mCons (mOfF (mComp (mRng rng1 (mCons (mVar 1) (mNil))) (gNm 8) t_law_signs_1 e_law_signs_1 [8])) (mNil)))))))
def b_law_signs : Rho → Fl := sSeq (sSetHot 3 (mNil)) (sSeq (sFor (mRng rng1 (mCons (mVar 2) (mNil))) (gNm 4) l_law_signs_2) (sRet (mBlt bTup (mCons (mVar 3) (mNil)))))
def f_law_signs : List Ent → FO := fnM b_law_signs 9 [0]
def t_law_cures_0 : Mi Bool := mTstR cIn (mVar 6) 5
def e_law_cures_0 : Mi PyData := mVar 6
def l_law_cures_1 : Rho → Fl := sSeq (sSetHot 5 (mIfL (mTst cGt (mCall f_law_take (aHot 0 (aVal (Mi.ret (.int 4)) (aNil)))) (Mi.ret (.int 0))) (mCons (mBin fMod (mBlt bInt (mCons (mVar 4) (mNil))) (mVar 2)) (mNil)) (mCons (mCall f_law_take (aHot 0 (aVal (mVar 2) (aNil)))) (mNil)))) (sSeq (sIf (mTst cEq (mCall f_law_take (aHot 0 (aVal (Mi.ret (.int 4)) (aNil)))) (Mi.ret (.int 0))) (sApp 5 (mCall f_law_take (aHot 0 (aVal (mVar 2) (aNil))))) (fun r => .nx r)) (sApp 3 (mBlt bTup (mCons (mOfF (mComp (mRng rng1 (mCons (mVar 2) (mNil))) (gNm 6) t_law_cures_0 e_law_cures_0 [6])) (mNil)))))
def b_law_cures : Rho → Fl := sSeq (sSetHot 3 (mNil)) (sSeq (sFor (mRng rng1 (mCons (mVar 1) (mNil))) (gNm 4) l_law_cures_1) (sRet (mBlt bTup (mCons (mVar 3) (mNil)))))
def f_law_cures : List Ent → FO := fnM b_law_cures 7 [0]
def b_law_rig : Rho → Fl := sSeq (sPar 3 4 (mCons (mBin fAdd (Mi.ret (.int 2)) (mCall f_law_take (aHot 0 (aVal (mBin fSub (mVar 1) (Mi.ret (.int 1))) (aNil))))) (mCons (mBin fAdd (Mi.ret (.int 2)) (mCall f_law_take (aHot 0 (aVal (mBin fSub (mVar 2) (Mi.ret (.int 1))) (aNil))))) (mNil)))) (sSeq (sSet 5 (mBin fAdd (Mi.ret (.int 2)) (mCall f_law_take (aHot 0 (aVal (mBlt bMax (mCons (Mi.ret (.int 1)) (mCons (mBlt bMin (mCons (Mi.ret (.int 14)) (mCons (mBin fSub (mVar 3) (Mi.ret (.int 1))) (mNil)))) (mNil)))) (aNil)))))) (sRet (mTup (mCons (mVar 3) (mCons (mVar 5) (mCons (mCall f_law_cures (aHot 0 (aVal (mVar 3) (aVal (mVar 5) (aNil))))) (mCons (mCall f_law_signs (aHot 0 (aVal (mVar 3) (aVal (mVar 4) (aNil))))) (mCons (mCall f_law_joined_moves (aHot 0 (aVal (mVar 4) (aNil)))) (mNil)))))))))
def f_law_rig : List Ent → FO := fnM b_law_rig 6 [0]
def b_law_rig_of_all_sizes : Rho → Fl := sSeq (sSet 1 (mCall f_law_rig (aHot 0 (aVal (Mi.ret (.int 6)) (aVal (Mi.ret (.int 5)) (aNil)))))) (sSeq (sIf (mTst cGt (mCall f_law_take (aHot 0 (aVal (Mi.ret (.int 6)) (aNil)))) (Mi.ret (.int 0))) (sRet (mVar 1)) (fun r => .nx r)) (sSeq (sPar 2 3 (mCons (mCall f_law_one (aHot 0 (aVal (mLst (mCons (Mi.ret (.int 1)) (mCons (Mi.ret (.int 24)) (mNil)))) (aNil)))) (mCons (mBlt bLen (mCons (mIxV 1 (Mi.ret (.int 3))) (mNil))) (mNil)))) (sRet (mTup (mCons (mVar 2) (mCons (mIxV 1 (Mi.ret (.int 1))) (mCons (mCall f_law_cures (aHot 0 (aVal (mVar 2) (aVal (mIxV 1 (Mi.ret (.int 1))) (aNil))))) (mCons (mCall f_law_signs (aHot 0 (aVal (mVar 2) (aVal (mVar 3) (aNil))))) (mCons (mIxV 1 (Mi.ret (.int 4))) (mNil))))))))))
def f_law_rig_of_all_sizes : List Ent → FO := fnM b_law_rig_of_all_sizes 4 [0]
def t_law_lots_asked_0 : Mi Bool := Mi.ret true
def e_law_lots_asked_0 : Mi PyData := mVar 3
def t_law_lots_asked_1 : Mi Bool := Mi.ret true
def e_law_lots_asked_1 : Mi PyData := mBlt bTup (mCons (mCall f_law_some (aHot 0 (aVal (mVar 2) (aNil)))) (mNil))
def b_law_lots_asked : Rho → Fl := sSeq (sSetHot 2 (mComp (mRng rng1 (mCons (mIxV 1 (Mi.ret (.int 0))) (mNil))) (gNm 3) t_law_lots_asked_0 e_law_lots_asked_0 [3])) (sRet (mBin fAdd (mLst (mCons (mTup (mNil)) (mCons (mBlt bTup (mCons (mVar 2) (mNil))) (mNil)))) (mOfF (mComp (mRng rng1 (mCons (Mi.ret (.int 4)) (mNil))) (gNm 4) t_law_lots_asked_1 e_law_lots_asked_1 [4]))))
def f_law_lots_asked : List Ent → FO := fnM b_law_lots_asked 5 [0]
def l_law_shown_pairs_0 : Rho → Fl := sSeq (sSet 5 (mBin fIx (mBin fIx (mIxV 0 (Mi.ret (.int 3))) (mVar 2)) (mVar 4))) (sPutD 3 (mVar 5) (mBin fAdd (mGet2 3 (mVar 5) (mTup (mNil))) (mTup (mCons (mVar 4) (mNil)))))
def t_law_shown_pairs_1 : Mi Bool := Mi.ret true
def e_law_shown_pairs_1 : Mi PyData := mTup (mCons (mVar 5) (mCons (mGetD 3 (mVar 5)) (mNil)))
def b_law_shown_pairs : Rho → Fl := sSeq (sSetE 3 (mDict0)) (sSeq (sFor (mIter (mVar 1)) (gNm 4) l_law_shown_pairs_0) (sRet (mBlt bTup (mCons (mOfF (mComp (mIter (mSortD 3)) (gNm 5) t_law_shown_pairs_1 e_law_shown_pairs_1 [5])) (mNil)))))
def f_law_shown_pairs : List Ent → FO := fnM b_law_shown_pairs 6 []
def l_neighbours_0 : Rho → Fl := sIf (mTst cEq (mVar 4) (mVar 1)) (sApp 2 (mTup (mCons (mVar 5) (mCons (mVar 3) (mNil))))) (sIf (mTst cEq (mVar 5) (mVar 1)) (sApp 2 (mTup (mCons (mVar 4) (mCons (mVar 3) (mNil))))) (fun r => .nx r))
def b_neighbours : Rho → Fl := sSeq (sExpr (mCall f_made_rig (aVal (mVar 0) (aNil)))) (sSeq (sExpr (mCall f_check_setting (aVal (mVar 0) (aVal (mVar 1) (aNil))))) (sSeq (sSetHot 2 (mNil)) (sSeq (sFor (mEnum (mIxV 0 (Mi.ret (.int 4)))) (gTp 2 (gCn (gNm 3) (gCn (gTp 2 (gCn (gNm 4) (gCn (gNm 5) (gN0)))) (gN0)))) l_neighbours_0) (sRet (mBlt bTup (mCons (mVar 2) (mNil)))))))
def f_neighbours : List Ent → FO := fnM b_neighbours 6 []
def b_is_bar : Rho → Fl := sRet (mAnd (mCall f_is_tuple_of (aVal (mVar 1) (aVal (Mi.ret (.int 1)) (aVal (Mi.ret (.int 3)) (aNil))))) (mCall f_is_ascending (aVal (mVar 1) (aVal (mIxV 0 (Mi.ret (.int 0))) (aNil)))))
def f_is_bar : List Ent → FO := fnM b_is_bar 2 []
def l_are_bars_0 : Rho → Fl := sSeq (sIf (tOrM (tNotM (mTru (mCall f_is_bar (aVal (mVar 0) (aVal (mVar 3) (aNil)))))) (tNotM (mTst cLt (mVar 2) (mVar 3)))) (sRet (Mi.ret (.bool false))) (fun r => .nx r)) (sSet 2 (mVar 3))
def b_are_bars : Rho → Fl := sSeq (sIf (tNotM (mTru (mCall f_is_tuple_of (aVal (mVar 1) (aVal (Mi.ret (.int 0)) (aVal (Mi.ret (.int 200)) (aNil))))))) (sRet (Mi.ret (.bool false))) (fun r => .nx r)) (sSeq (sSet 2 (mTup (mNil))) (sSeq (sFor (mIter (mVar 1)) (gNm 3) l_are_bars_0) (sRet (Mi.ret (.bool true)))))
def f_are_bars : List Ent → FO := fnM b_are_bars 4 []
def l_made_book_0 : Rho → Fl := sIf (tNotM (mTru (mCall f_are_bars (aVal (mVar 1) (aVal (mVar 5) (aNil)))))) (sRaise "BadBook" (mVar 4)) (fun r => .nx r)
def b_made_book : Rho → Fl := sSeq (sIf (tNotM (mTru (mCall f_is_tuple_of (aVal (mVar 0) (aVal (Mi.ret (.int 2)) (aVal (Mi.ret (.int 2)) (aNil))))))) (sRaise "BadBook" (mNeg (Mi.ret (.int 1)))) (fun r => .nx r)) (sSeq (sAsg (gTp 2 (gCn (gNm 1) (gCn (gNm 2) (gN0)))) (mVar 0)) (sSeq (sExpr (mCall f_made_rig (aVal (mVar 1) (aNil)))) (sSeq (sSet 3 (mBlt bLen (mCons (mIxV 1 (Mi.ret (.int 4))) (mNil)))) (sSeq (sIf (tNotM (mTru (mCall f_is_tuple_of (aVal (mVar 2) (aVal (mVar 3) (aVal (mVar 3) (aNil))))))) (sRaise "BadBook" (mNeg (Mi.ret (.int 2)))) (fun r => .nx r)) (sSeq (sFor (mEnum (mVar 2)) (gTp 2 (gCn (gNm 4) (gCn (gNm 5) (gN0)))) l_made_book_0) (sRet (mVar 0)))))))
def f_made_book : List Ent → FO := fnM b_made_book 6 []
def l_lies_within_0 : Rho → Fl := sIf (mTst cNotIn (mVar 2) (mVar 1)) (sRet (Mi.ret (.bool false))) (fun r => .nx r)
def b_lies_within : Rho → Fl := sSeq (sFor (mIter (mVar 0)) (gNm 2) l_lies_within_0) (sRet (Mi.ret (.bool true)))
def f_lies_within : List Ent → FO := fnM b_lies_within 3 []
def l_first_within_0 : Rho → Fl := sIf (mTru (mCall f_lies_within (aVal (mVar 2) (aVal (mVar 1) (aNil))))) (sRet (mVar 2)) (fun r => .nx r)
def b_first_within : Rho → Fl := sSeq (sFor (mIter (mVar 0)) (gNm 2) l_first_within_0) (sRet (Mi.ret .none))
def f_first_within : List Ent → FO := fnM b_first_within 3 []
def l_distances_0 : Rho → Fl := sIf (mInD 2 (mVar 6) not) (sSeq (sPutD 2 (mVar 6) (mBin fAdd (mGetD 2 (mVar 5)) (Mi.ret (.int 1)))) (sApp 4 (mVar 6))) (fun r => .nx r)
def l_distances_1 : Rho → Fl := sFor (mIter (mIxV 0 (mVar 5))) (gNm 6) l_distances_0
def t_distances_2 : Mi Bool := mTru (mVar 3)
def l_distances_2 : Rho → Fl := sSeq (sSetHot 4 (mNil)) (sSeq (sFor (mIter (mVar 3)) (gNm 5) l_distances_1) (sSet 3 (mVar 4)))
def b_distances : Rho → Fl := sSeq (sSetE 2 (mDict1 (mVar 1) (Mi.ret (.int 0)))) (sSeq (sSet 3 (mLst (mCons (mVar 1) (mNil)))) (sSeq (sWhl t_distances_2 l_distances_2) (sRetE (mTake 2))))
def f_distances : List Ent → FO := fnM b_distances 7 []
def l_joined_by_free_0 : Rho → Fl := sIf (tIsNM (mCall f_first_within (aVal (mIxV 3 (mVar 6)) (aVal (mVar 1) (aNil))))) (sSeq (sLLApp 4 8 (mVar 7)) (sLLApp 4 7 (mVar 8))) (fun r => .nx r)
def b_joined_by_free : Rho → Fl := sSeq (sAsg (gTp 2 (gCn (gNm 2) (gCn (gNm 3) (gN0)))) (mVar 0)) (sSeq (sSetE 4 (mLL 5 (mIter (mIxV 2 (Mi.ret (.int 3)))))) (sSeq (sFor (mEnum (mIxV 2 (Mi.ret (.int 4)))) (gTp 2 (gCn (gNm 6) (gCn (gTp 2 (gCn (gNm 7) (gCn (gNm 8) (gN0)))) (gN0)))) l_joined_by_free_0) (sRetE (mTake 4))))
def f_joined_by_free : List Ent → FO := fnM b_joined_by_free 9 []
def b_region_at : Rho → Fl := sRet (mBlt bTup (mCons (mSortN (mCallE f_distances (aVal (mCall f_joined_by_free (aVal (mVar 0) (aVal (mVar 1) (aNil)))) (aVal (mVar 2) (aNil))))) (mNil)))
def f_region_at : List Ent → FO := fnM b_region_at 3 []
def b_region : Rho → Fl := sSeq (sAsg (gTp 2 (gCn (gNm 3) (gCn (gNm 4) (gN0)))) (mCall f_made_book (aVal (mVar 0) (aNil)))) (sSeq (sExpr (mCall f_check_lot (aVal (mVar 3) (aVal (mVar 1) (aNil))))) (sSeq (sExpr (mCall f_check_setting (aVal (mVar 3) (aVal (mVar 2) (aNil))))) (sRet (mCall f_region_at (aVal (mVar 0) (aVal (mVar 1) (aVal (mVar 2) (aNil))))))))
def f_region : List Ent → FO := fnM b_region 5 []
def t_least_way_0 : Mi Bool := mTst cLt (mGetD 3 (mVar 6)) (mGetD 3 (mVar 5))
def e_least_way_0 : Mi PyData := mVar 6
def t_least_way_1 : Mi Bool := mTst cNe (mIxV 4 (mNeg (Mi.ret (.int 1)))) (mVar 2)
def l_least_way_1 : Rho → Fl := sSeq (sSet 5 (mIxV 4 (mNeg (Mi.ret (.int 1))))) (sApp 4 (mBlt bMinL (mCons (mOfF (mComp (mIter (mIxV 0 (mVar 5))) (gNm 6) t_least_way_0 e_least_way_0 [6])) (mNil))))
def b_least_way : Rho → Fl := sSeq (sSetE 3 (mCallE f_distances (aVal (mVar 0) (aVal (mVar 2) (aNil))))) (sSeq (sIf (mInD 3 (mVar 1) not) (sRet (Mi.ret .none)) (fun r => .nx r)) (sSeq (sSetHot 4 (mCons (mVar 1) (mNil))) (sSeq (sWhl t_least_way_1 l_least_way_1) (sRet (mBlt bTup (mCons (mVar 4) (mNil)))))))
def f_least_way : List Ent → FO := fnM b_least_way 7 []
def b_way : Rho → Fl := sSeq (sAsg (gTp 2 (gCn (gNm 4) (gCn (gNm 5) (gN0)))) (mCall f_made_book (aVal (mVar 0) (aNil)))) (sSeq (sExpr (mCall f_check_lot (aVal (mVar 4) (aVal (mVar 1) (aNil))))) (sSeq (sExpr (mCall f_check_setting (aVal (mVar 4) (aVal (mVar 2) (aNil))))) (sSeq (sExpr (mCall f_check_setting (aVal (mVar 4) (aVal (mVar 3) (aNil))))) (sRet (mCall f_least_way (aVal (mCall f_joined_by_free (aVal (mVar 0) (aVal (mVar 1) (aNil)))) (aVal (mVar 2) (aVal (mVar 3) (aNil)))))))))
def f_way : List Ent → FO := fnM b_way 6 []
def l_law_mixed_0 : Rho → Fl := sApp 3 (mPopAt 2 (mCall f_law_take (aHot 0 (aVal (mLenV 2) (aNil)))))
def b_law_mixed : Rho → Fl := sSeq (sParNN 2 3 (mEntF (mLstOf (mVar 1))) (mEntF (mNil))) (sSeq (sFor (mRng rng1 (mCons (mLenV 1) (mNil))) (gNm 4) l_law_mixed_0) (sRet (mVar 3)))
def f_law_mixed : List Ent → FO := fnM b_law_mixed 5 [0]
def t_law_all_0 : Mi Bool := Mi.ret true
def e_law_all_0 : Mi PyData := mVar 1
def b_law_all : Rho → Fl := sRet (mBlt bTup (mCons (mOfF (mComp (mRng rng1 (mCons (mIxV 0 (Mi.ret (.int 0))) (mNil))) (gNm 1) t_law_all_0 e_law_all_0 [1])) (mNil)))
def f_law_all : List Ent → FO := fnM b_law_all 2 []
def t_law_is_within_0 : Mi Bool := mTst cNotIn (mVar 2) (mVar 1)
def e_law_is_within_0 : Mi PyData := mVar 2
def b_law_is_within : Rho → Fl := sRet (mBin (fB cEq) (mOfF (mComp (mIter (mVar 0)) (gNm 2) t_law_is_within_0 e_law_is_within_0 [2])) (mLst (mNil)))
def f_law_is_within : List Ent → FO := fnM b_law_is_within 3 []
def t_law_cures_all_0 : Mi Bool := mTst cNotIn (mVar 2) (mBin fIx (mIxV 0 (Mi.ret (.int 2))) (mVar 3))
def e_law_cures_all_0 : Mi PyData := mVar 3
def t_law_cures_all_1 : Mi Bool := mTst cEq (mOfF (mComp (mIter (mVar 1)) (gNm 3) t_law_cures_all_0 e_law_cures_all_0 [3])) (mLst (mNil))
def e_law_cures_all_1 : Mi PyData := mVar 2
def b_law_cures_all : Rho → Fl := sRet (mOfF (mComp (mRng rng1 (mCons (mIxV 0 (Mi.ret (.int 1))) (mNil))) (gNm 2) t_law_cures_all_1 e_law_cures_all_1 [2]))
def f_law_cures_all : List Ent → FO := fnM b_law_cures_all 4 []
def b_law_is_done : Rho → Fl := sRet (mBin (fB cNe) (mCall f_law_cures_all (aVal (mVar 0) (aVal (mVar 1) (aNil)))) (mLst (mNil)))
def f_law_is_done : List Ent → FO := fnM b_law_is_done 2 []
def t_law_is_one_sign_0 : Mi Bool := mTst cNe (mBin fIx (mBin fIx (mIxV 0 (Mi.ret (.int 3))) (mVar 2)) (mVar 3)) (mBin fIx (mBin fIx (mIxV 0 (Mi.ret (.int 3))) (mVar 2)) (mIxV 1 (Mi.ret (.int 0))))
def e_law_is_one_sign_0 : Mi PyData := mVar 3
def b_law_is_one_sign : Rho → Fl := sRet (mBin (fB cEq) (mOfF (mComp (mIter (mVar 1)) (gNm 3) t_law_is_one_sign_0 e_law_is_one_sign_0 [3])) (mLst (mNil)))
def f_law_is_one_sign : List Ent → FO := fnM b_law_is_one_sign 4 []
def t_law_parts_0 : Mi Bool := mTst cEq (mBin fIx (mBin fIx (mIxV 0 (Mi.ret (.int 3))) (mVar 2)) (mVar 6)) (mVar 4)
def e_law_parts_0 : Mi PyData := mVar 6
def l_law_parts_1 : Rho → Fl := sSeq (sSet 5 (mBlt bTup (mCons (mOfF (mComp (mIter (mVar 1)) (gNm 6) t_law_parts_0 e_law_parts_0 [6])) (mNil)))) (sIf (mTst cNe (mVar 5) (mTup (mNil))) (sApp 3 (mTup (mCons (mVar 4) (mCons (mVar 5) (mNil))))) (fun r => .nx r))
def b_law_parts : Rho → Fl := sSeq (sSetHot 3 (mNil)) (sSeq (sFor (mRng rng1 (mCons (Mi.ret (.int 10)) (mNil))) (gNm 4) l_law_parts_1) (sRet (mVar 3)))
def f_law_parts : List Ent → FO := fnM b_law_parts 7 []
def b_law_move_of : Rho → Fl := sSeq (sSet 3 (mTup (mCons (mBlt bMin (mCons (mVar 1) (mCons (mVar 2) (mNil)))) (mCons (mBlt bMax (mCons (mVar 1) (mCons (mVar 2) (mNil)))) (mNil))))) (sRet (mIf (mTst cIn (mVar 3) (mIxV 0 (Mi.ret (.int 4)))) (mTIdx (mIxV 0 (Mi.ret (.int 4))) (mVar 3)) (Mi.ret .none)))
def f_law_move_of : List Ent → FO := fnM b_law_move_of 4 []
def t_law_bar_of_0 : Mi Bool := mTru (mCall f_law_is_within (aVal (mVar 4) (aVal (mVar 1) (aNil))))
def e_law_bar_of_0 : Mi PyData := mVar 4
def b_law_bar_of : Rho → Fl := sSeq (sSetHot 3 (mComp (mIter (mBin fIx (mIxV 0 (Mi.ret (.int 1))) (mVar 2))) (gNm 4) t_law_bar_of_0 e_law_bar_of_0 [4])) (sRet (mIf (mTst cNe (mVar 3) (mLst (mNil))) (mIxV 3 (Mi.ret (.int 0))) (Mi.ret .none)))
def f_law_bar_of : List Ent → FO := fnM b_law_bar_of 5 []
def l_law_next_0 : Rho → Fl := sIf (tAndM (mTst cIn (mVar 2) (mBin fIx (mIxV 3 (Mi.ret (.int 4))) (mVar 5))) (tIsNM (mCall f_law_bar_of (aVal (mVar 0) (aVal (mVar 1) (aVal (mVar 5) (aNil))))))) (sApp 4 (mBin fSub (mBin fAdd (mBin fIx (mBin fIx (mIxV 3 (Mi.ret (.int 4))) (mVar 5)) (Mi.ret (.int 0))) (mBin fIx (mBin fIx (mIxV 3 (Mi.ret (.int 4))) (mVar 5)) (Mi.ret (.int 1)))) (mVar 2))) (fun r => .nx r)
def b_law_next : Rho → Fl := sSeq (sParH 3 4 (mIxV 0 (Mi.ret (.int 0))) (mNil)) (sSeq (sFor (mRng rng1 (mCons (mBlt bLen (mCons (mIxV 3 (Mi.ret (.int 4))) (mNil))) (mNil))) (gNm 5) l_law_next_0) (sRet (mBlt bSort (mCons (mVar 4) (mNil)))))
def f_law_next : List Ent → FO := fnM b_law_next 6 []
def l_law_joined_0 : Rho → Fl := sIf (mTstR cNotIn (mVar 5) 3) (sSeq (sApp 3 (mVar 5)) (sApp 4 (mVar 5))) (fun r => .nx r)
def t_law_joined_1 : Mi Bool := mTstL cNe 4 (mLst (mNil))
def l_law_joined_1 : Rho → Fl := sFor (mIter (mCall f_law_next (aVal (mVar 0) (aVal (mVar 1) (aVal (mPop 4) (aNil)))))) (gNm 5) l_law_joined_0
def b_law_joined : Rho → Fl := sSeq (sParNN 3 4 (mEntF (mCons (mVar 2) (mNil))) (mEntF (mCons (mVar 2) (mNil)))) (sSeq (sWhl t_law_joined_1 l_law_joined_1) (sRet (mBlt bTup (mCons (mBlt bSort (mCons (mVar 3) (mNil))) (mNil)))))
def f_law_joined : List Ent → FO := fnM b_law_joined 6 []
def l_law_paths_0 : Rho → Fl := sIf (mInD 3 (mVar 8) not) (sSeq (sPutD 3 (mVar 8) (mBin fAdd (mVar 7) (mTup (mCons (mVar 8) (mNil))))) (sApp 6 (mBin fAdd (mVar 7) (mTup (mCons (mVar 8) (mNil)))))) (fun r => .nx r)
def l_law_paths_1 : Rho → Fl := sFor (mIter (mCall f_law_next (aVal (mVar 0) (aVal (mVar 1) (aVal (mIxV 7 (mBin fSub (mLenV 7) (Mi.ret (.int 1)))) (aNil)))))) (gNm 8) l_law_paths_0
def l_law_paths_2 : Rho → Fl := sSeq (sSetHot 6 (mNil)) (sSeq (sFor (mIter (mBlt bSort (mCons (mVar 4) (mNil)))) (gNm 7) l_law_paths_1) (sSet 4 (mVar 6)))
def b_law_paths : Rho → Fl := sSeq (sParNN 3 4 (mDict0) (mEntF (mCons (mTup (mCons (mVar 2) (mNil))) (mNil)))) (sSeq (sPutD 3 (mVar 2) (mTup (mCons (mVar 2) (mNil)))) (sSeq (sFor (mRng rng1 (mCons (mBlt bLen (mCons (mBin fIx (mIxV 0 (Mi.ret (.int 0))) (Mi.ret (.int 3))) (mNil))) (mNil))) (gNm 5) l_law_paths_2) (sRetE (mTake 3))))
def f_law_paths : List Ent → FO := fnM b_law_paths 9 []
def t_law_bar_0 : Mi Bool := Mi.ret true
def e_law_bar_0 : Mi PyData := mVar 2
def b_law_bar : Rho → Fl := sRet (mBlt bTup (mCons (mBlt bSort (mCons (mCut (mCall f_law_mixed (aHot 0 (aVal (mOfF (mComp (mRng rng1 (mCons (mVar 1) (mNil))) (gNm 2) t_law_bar_0 e_law_bar_0 [2])) (aNil)))) (Mi.ret none) (mPart (mBin fAdd (Mi.ret (.int 1)) (mCall f_law_take (aHot 0 (aVal (mBlt bMin (mCons (Mi.ret (.int 3)) (mCons (mVar 1) (mNil)))) (aNil))))))) (mNil))) (mNil)))
def f_law_bar : List Ent → FO := fnM b_law_bar 3 [0]
def t_law_bars_0 : Mi Bool := mTru (mCall f_law_is_within (aVal (mVar 7) (aVal (mVar 8) (aNil))))
def e_law_bars_0 : Mi PyData := mVar 8
def l_law_bars_1 : Rho → Fl := sSeq (sSet 7 (mCall f_law_bar (aHot 0 (aVal (mIxV 1 (Mi.ret (.int 0))) (aNil))))) (sIf (tAndM (mTstR cNotIn (mVar 7) 5) (mTst cEq (mOfF (mComp (mIter (mIxV 2 (mVar 4))) (gNm 8) t_law_bars_0 e_law_bars_0 [8])) (mLst (mNil)))) (sApp 5 (mVar 7)) (fun r => .nx r))
def l_law_bars_2 : Rho → Fl := sSeq (sSetHot 5 (mNil)) (sSeq (sFor (mRng rng1 (mCons (mCall f_law_take (aHot 0 (aVal (Mi.ret (.int 4)) (aNil)))) (mNil))) (gNm 6) l_law_bars_1) (sApp 3 (mBlt bTup (mCons (mBlt bSort (mCons (mVar 5) (mNil))) (mNil)))))
def b_law_bars : Rho → Fl := sSeq (sSetHot 3 (mNil)) (sSeq (sFor (mRng rng1 (mCons (mBlt bLen (mCons (mIxV 1 (Mi.ret (.int 4))) (mNil))) (mNil))) (gNm 4) l_law_bars_2) (sRet (mBlt bTup (mCons (mVar 3) (mNil)))))
def f_law_bars : List Ent → FO := fnM b_law_bars 9 [0]
def t_law_drawn_book_0 : Mi Bool := Mi.ret true
def e_law_drawn_book_0 : Mi PyData := mLst (mNil)
def b_law_drawn_book : Rho → Fl := sSeq (sSet 3 (mCall f_law_rig (aHot 0 (aVal (mVar 1) (aVal (mVar 2) (aNil)))))) (sRet (mTup (mCons (mVar 3) (mCons (mCall f_law_bars (aHot 0 (aVal (mVar 3) (aVal (mOfF (mComp (mIter (mIxV 3 (Mi.ret (.int 4)))) (gNm 4) t_law_drawn_book_0 e_law_drawn_book_0 [4])) (aNil))))) (mNil)))))
def f_law_drawn_book : List Ent → FO := fnM b_law_drawn_book 5 [0]
def l_law_plan_0 (rec : List Ent → FO) : Rho → Fl := sExpr (mCall rec (aHot 0 (aVal (mVar 1) (aHot 2 (aHot 3 (aVal (mVar 9) (aVal (mVar 5) (aNil))))))))
def t_law_plan_1 (rec : List Ent → FO) : Mi Bool := tNotM (mTru (mCall f_law_is_one_sign (aVal (mVar 6) (aVal (mVar 4) (aVal (mVar 11) (aNil))))))
def e_law_plan_1 (rec : List Ent → FO) : Mi PyData := mVar 11
def l_law_plan_2 (rec : List Ent → FO) : Rho → Fl := sLLApp 2 4 (mCall f_law_move_of (aVal (mVar 6) (aVal (mIxV 12 (mBin fSub (mVar 13) (Mi.ret (.int 1)))) (aVal (mIxV 12 (mVar 13)) (aNil)))))
def b_law_plan (rec : List Ent → FO) : Rho → Fl := sSeq (sAsg (gTp 2 (gCn (gNm 6) (gCn (gNm 7) (gN0)))) (mTup (mCons (mIxV 1 (Mi.ret (.int 0))) (mCons (mCall f_law_parts (aVal (mIxV 1 (Mi.ret (.int 0))) (aVal (mVar 4) (aVal (mVar 5) (aNil))))) (mNil))))) (sIf (mTst cGt (mLenV 7) (Mi.ret (.int 1))) (sFor (mIter (mVar 7)) (gTp 2 (gCn (gNm 8) (gCn (gNm 9) (gN0)))) (l_law_plan_0 rec)) (sSeq (sSetE 10 (mCallE f_law_paths (aVal (mVar 1) (aVal (mVar 4) (aVal (mVar 5) (aNil)))))) (sSeq (sSetHot 9 (mComp (mIter (mSortD 10)) (gNm 11) (t_law_plan_1 rec) (e_law_plan_1 rec) [11])) (sIf (tOrM (mTst cEq (mVar 9) (mLst (mNil))) (tAndM (mTru (mCall f_law_is_done (aVal (mVar 6) (aVal (mVar 4) (aNil))))) (mTst cGt (mCall f_law_take (aHot 0 (aVal (Mi.ret (.int 4)) (aNil)))) (Mi.ret (.int 0))))) (sApp 3 (mVar 4)) (sSeq (sSet 12 (mGetD 10 (mCall f_law_one (aHot 0 (aVal (mVar 9) (aNil)))))) (sSeq (sFor (mRng rng2 (mCons (Mi.ret (.int 1)) (mCons (mLenV 12) (mNil)))) (gNm 13) (l_law_plan_2 rec)) (sExpr (mCall rec (aHot 0 (aVal (mVar 1) (aHot 2 (aHot 3 (aVal (mVar 4) (aVal (mIxV 12 (mBin fSub (mLenV 12) (Mi.ret (.int 1)))) (aNil)))))))))))))))
def f_law_plan : Nat → List Ent → FO
  | 0 => fun _ => .bad
  | n + 1 => fnM (b_law_plan (f_law_plan n)) 14 [0, 2, 3]
def t_law_planted_book_0 : Mi Bool := tOrM (mTst cEq (mVar 11) (mVar 9)) (mTst cIn (mVar 11) (mIxV 7 (mVar 10)))
def e_law_planted_book_0 : Mi PyData := mVar 11
def l_law_planted_book_1 : Rho → Fl := sStore 7 (mVar 10) (mBlt bTup (mCons (mOfF (mComp (mRng rng1 (mCons (mIxV 3 (Mi.ret (.int 1))) (mNil))) (gNm 11) t_law_planted_book_0 e_law_planted_book_0 [11])) (mNil)))
def l_law_planted_book_2 : Rho → Fl := sIf (mTst cEq (mCall f_law_cures_all (aVal (mTup (mCons (mIxV 3 (Mi.ret (.int 0))) (mCons (mIxV 3 (Mi.ret (.int 1))) (mCons (mBlt bTup (mCons (mVar 7) (mNil))) (mNil))))) (aVal (mVar 8) (aNil)))) (mLst (mNil))) (sSeq (sSet 9 (mCall f_law_take (aHot 0 (aVal (mIxV 3 (Mi.ret (.int 1))) (aNil))))) (sFor (mIter (mVar 8)) (gNm 10) l_law_planted_book_1)) (fun r => .nx r)
def b_law_planted_book : Rho → Fl := sSeq (sSet 3 (mCall f_law_rig (aHot 0 (aVal (mVar 1) (aVal (mVar 2) (aNil)))))) (sSeq (sParNN 4 5 (mLL 6 (mIter (mIxV 3 (Mi.ret (.int 4))))) (mEntF (mNil))) (sSeq (sExpr (mCall (f_law_plan 64) (aHot 0 (aVal (mTup (mCons (mVar 3) (mCons (mBin fMul (mTup (mCons (mTup (mNil)) (mNil))) (mBlt bLen (mCons (mIxV 3 (Mi.ret (.int 4))) (mNil)))) (mNil)))) (aHot 4 (aHot 5 (aVal (mCall f_law_all (aVal (mVar 3) (aNil))) (aVal (Mi.ret (.int 0)) (aNil))))))))) (sSeq (sSetHot 7 (mLstOf (mIxV 3 (Mi.ret (.int 2))))) (sSeq (sFor (mIter (mVar 5)) (gNm 8) l_law_planted_book_2) (sSeq (sSet 12 (mTup (mCons (mIxV 3 (Mi.ret (.int 0))) (mCons (mIxV 3 (Mi.ret (.int 1))) (mCons (mBlt bTup (mCons (mVar 7) (mNil))) (mCons (mIxV 3 (Mi.ret (.int 3))) (mCons (mIxV 3 (Mi.ret (.int 4))) (mNil)))))))) (sRet (mTup (mCons (mVar 12) (mCons (mCall f_law_bars (aHot 0 (aVal (mVar 12) (aVal (mVarL 4) (aNil))))) (mNil))))))))))
def f_law_planted_book : List Ent → FO := fnM b_law_planted_book 13 [0]
def b_law_some_book : Rho → Fl := sSeq (sSet 3 (mCall f_law_take (aHot 0 (aVal (Mi.ret (.int 3)) (aNil))))) (sRet (mIf (mTst cEq (mVar 3) (Mi.ret (.int 0))) (mCall f_law_drawn_book (aHot 0 (aVal (mVar 1) (aVal (mVar 2) (aNil))))) (mCall f_law_planted_book (aHot 0 (aVal (mVar 1) (aVal (mVar 2) (aNil)))))))
def f_law_some_book : List Ent → FO := fnM b_law_some_book 4 [0]
def t_law_great_rig_0 : Mi Bool := tOrM (mTst cEq (mVar 5) (mBin fAdd (mVar 4) (Mi.ret (.int 1)))) (mTst cEq (mCall f_law_take (aHot 0 (aVal (Mi.ret (.int 4)) (aNil)))) (Mi.ret (.int 0)))
def e_law_great_rig_0 : Mi PyData := mTup (mCons (mVar 4) (mCons (mVar 5) (mNil)))
def l_law_great_rig_1 : Rho → Fl := sExtF 3 (mComp (mRng rng2 (mCons (mBin fAdd (mVar 4) (Mi.ret (.int 1))) (mCons (mVar 2) (mNil)))) (gNm 5) t_law_great_rig_0 e_law_great_rig_0 [5])
def b_law_great_rig : Rho → Fl := sSeq (sPar 1 2 (mCons (mBin fAdd (Mi.ret (.int 2)) (mCall f_law_take (aHot 0 (aVal (Mi.ret (.int 3)) (aNil))))) (mCons (mBin fAdd (Mi.ret (.int 5)) (mCall f_law_take (aHot 0 (aVal (Mi.ret (.int 3)) (aNil))))) (mNil)))) (sSeq (sSetHot 3 (mNil)) (sSeq (sFor (mRng rng1 (mCons (mVar 2) (mNil))) (gNm 4) l_law_great_rig_1) (sRet (mTup (mCons (mVar 1) (mCons (Mi.ret (.int 2)) (mCons (mCall f_law_cures (aHot 0 (aVal (mVar 1) (aVal (Mi.ret (.int 2)) (aNil))))) (mCons (mCall f_law_signs (aHot 0 (aVal (mVar 1) (aVal (mVar 2) (aNil))))) (mCons (mBlt bTup (mCons (mVar 3) (mNil))) (mNil))))))))))
def f_law_great_rig : List Ent → FO := fnM b_law_great_rig 6 [0]
def b_law_is_led_on : Rho → Fl := sSeq (sSet 4 (mCall f_law_move_of (aVal (mIxV 0 (Mi.ret (.int 0))) (aVal (mVar 2) (aVal (mVar 3) (aNil)))))) (sRet (mAnd (mNotN (mVar 4)) (mIsN (mCall f_law_bar_of (aVal (mVar 0) (aVal (mVar 1) (aVal (mVar 4) (aNil))))))))
def f_law_is_led_on : List Ent → FO := fnM b_law_is_led_on 5 []
def t_law_rows_between_0 : Mi Bool := mTst cEq (mIxV 7 (mBin fSub (mLenV 7) (Mi.ret (.int 1)))) (mVar 3)
def e_law_rows_between_0 : Mi PyData := mVar 7
def t_law_rows_between_1 : Mi Bool := mTst cNotIn (mVar 9) (mVar 7)
def e_law_rows_between_1 : Mi PyData := mVar 9
def t_law_rows_between_2 : Mi Bool := mTru (mCall f_law_is_led_on (aVal (mVar 0) (aVal (mVar 1) (aVal (mIxV 7 (mBin fSub (mLenV 7) (Mi.ret (.int 1)))) (aVal (mVar 9) (aNil))))))
def e_law_rows_between_2 : Mi PyData := mBin fAdd (mVar 7) (mTup (mCons (mVar 9) (mNil)))
def l_law_rows_between_3 : Rho → Fl := sSeq (sSetHot 6 (mComp (mRng rng1 (mCons (mBlt bLen (mCons (mBin fIx (mIxV 0 (Mi.ret (.int 0))) (Mi.ret (.int 3))) (mNil))) (mNil))) (gNm 9) t_law_rows_between_1 e_law_rows_between_1 [9])) (sExtF 8 (mComp (mIter (mVar 6)) (gNm 9) t_law_rows_between_2 e_law_rows_between_2 [9]))
def l_law_rows_between_4 : Rho → Fl := sSeq (sSetHot 6 (mComp (mIter (mVar 4)) (gNm 7) t_law_rows_between_0 e_law_rows_between_0 [7])) (sSeq (sIf (mTst cNe (mVar 6) (mLst (mNil))) (sRet (mVar 6)) (fun r => .nx r)) (sSeq (sSetHot 8 (mNil)) (sSeq (sFor (mIter (mVar 4)) (gNm 7) l_law_rows_between_3) (sSet 4 (mVar 8)))))
def t_law_rows_between_5 : Mi Bool := mTst cEq (mIxV 7 (mBin fSub (mLenV 7) (Mi.ret (.int 1)))) (mVar 3)
def e_law_rows_between_5 : Mi PyData := mVar 7
def b_law_rows_between : Rho → Fl := sSeq (sSet 4 (mLst (mCons (mTup (mCons (mVar 2) (mNil))) (mNil)))) (sSeq (sFor (mRng rng1 (mCons (mBlt bLen (mCons (mBin fIx (mIxV 0 (Mi.ret (.int 0))) (Mi.ret (.int 3))) (mNil))) (mNil))) (gNm 5) l_law_rows_between_4) (sRet (mOfF (mComp (mIter (mVar 4)) (gNm 7) t_law_rows_between_5 e_law_rows_between_5 [7]))))
def f_law_rows_between : List Ent → FO := fnM b_law_rows_between 10 []
def b_law_one_way_right : Rho → Fl := sSeq (sPar 4 5 (mCons (mCall f_law_rows_between (aVal (mVar 0) (aVal (mVar 1) (aVal (mVar 2) (aVal (mVar 3) (aNil)))))) (mCons (mCall f_way (aVal (mVar 0) (aVal (mVar 1) (aVal (mVar 2) (aVal (mVar 3) (aNil)))))) (mNil)))) (sSeq (sSet 6 (mIf (mTst cNe (mVar 4) (mLst (mNil))) (mBlt bMinL (mCons (mVar 4) (mNil))) (Mi.ret .none))) (sSeq (sIf (tOrM (mTst cNe (mBlt bRepr (mCons (mVar 5) (mNil))) (mBlt bRepr (mCons (mVar 6) (mNil)))) (mTst cNe (mBin (fB cIn) (mVar 3) (mCall f_law_joined (aVal (mVar 0) (aVal (mVar 1) (aVal (mVar 2) (aNil)))))) (mNotN (mVar 6)))) (sRet (Mi.ret (.bool false))) (fun r => .nx r)) (sSeq (sSet 7 (mCall f_way (aVal (mVar 0) (aVal (mVar 1) (aVal (mVar 3) (aVal (mVar 2) (aNil))))))) (sSeq (sIf (tIsNM (mVar 6)) (sRet (mIsN (mVar 7))) (fun r => .nx r)) (sRet (mAnd (mBin (fB cEq) (mLenV 7) (mLenV 6)) (mBin (fB cNe) (mCall f_law_rows_between (aVal (mVar 0) (aVal (mVar 1) (aVal (mVar 3) (aVal (mVar 2) (aNil)))))) (mLst (mNil)))))))))
def f_law_one_way_right : List Ent → FO := fnM b_law_one_way_right 8 []
def l_law_own_neighbours_0 : Rho → Fl := sIf (mTst cIn (mVar 1) (mBin fIx (mIxV 0 (Mi.ret (.int 4))) (mVar 3))) (sApp 2 (mTup (mCons (mBin fSub (mBin fAdd (mBin fIx (mBin fIx (mIxV 0 (Mi.ret (.int 4))) (mVar 3)) (Mi.ret (.int 0))) (mBin fIx (mBin fIx (mIxV 0 (Mi.ret (.int 4))) (mVar 3)) (Mi.ret (.int 1)))) (mVar 1)) (mCons (mVar 3) (mNil))))) (fun r => .nx r)
def b_law_own_neighbours : Rho → Fl := sSeq (sSetHot 2 (mNil)) (sSeq (sFor (mRng rng1 (mCons (mBlt bLen (mCons (mIxV 0 (Mi.ret (.int 4))) (mNil))) (mNil))) (gNm 3) l_law_own_neighbours_0) (sRet (mBlt bTup (mCons (mBlt bSort (mCons (mVar 2) (mNil))) (mNil)))))
def f_law_own_neighbours : List Ent → FO := fnM b_law_own_neighbours 4 []
def b_check_move : Rho → Fl := sIf (tNotM (mTru (mCall f_is_index (aVal (mVar 1) (aVal (mBlt bLen (mCons (mIxV 0 (Mi.ret (.int 4))) (mNil))) (aNil)))))) (sRaise "BadMove" (mVar 1)) (fun r => .nx r)
def f_check_move : List Ent → FO := fnM b_check_move 2 []
def b_barring : Rho → Fl := sSeq (sAsg (gTp 2 (gCn (gNm 3) (gCn (gNm 4) (gN0)))) (mCall f_made_book (aVal (mVar 0) (aNil)))) (sSeq (sExpr (mCall f_check_lot (aVal (mVar 3) (aVal (mVar 1) (aNil))))) (sSeq (sExpr (mCall f_check_move (aVal (mVar 3) (aVal (mVar 2) (aNil))))) (sRet (mCall f_first_within (aVal (mIxV 4 (mVar 2)) (aVal (mVar 1) (aNil)))))))
def f_barring : List Ent → FO := fnM b_barring 5 []
def b_free : Rho → Fl := sRet (mIsN (mCall f_barring (aVal (mVar 0) (aVal (mVar 1) (aVal (mVar 2) (aNil))))))
def f_free : List Ent → FO := fnM b_free 3 []
def t_law_drawn_lots_0 : Mi Bool := Mi.ret true
def e_law_drawn_lots_0 : Mi PyData := mVar 3
def b_law_drawn_lots : Rho → Fl := sSeq (sSetHot 2 (mComp (mRng rng1 (mCons (mVar 1) (mNil))) (gNm 3) t_law_drawn_lots_0 e_law_drawn_lots_0 [3])) (sRet (mLst (mCons (mBlt bTup (mCons (mVar 2) (mNil))) (mCons (mTup (mNil)) (mCons (mTup (mCons (mCall f_law_take (aHot 0 (aVal (mVar 1) (aNil)))) (mNil))) (mCons (mBlt bTup (mCons (mCall f_law_some (aHot 0 (aVal (mVar 2) (aNil)))) (mNil))) (mCons (mBlt bTup (mCons (mCall f_law_some (aHot 0 (aVal (mVar 2) (aNil)))) (mNil))) (mNil))))))))
def f_law_drawn_lots : List Ent → FO := fnM b_law_drawn_lots 4 [0]
def t_law_is_let_0 : Mi Bool := mTst cIn (mVar 4) (mVar 1)
def e_law_is_let_0 : Mi PyData := mVar 4
def l_law_is_let_1 : Rho → Fl := sIf (mTst cEq (mOfF (mComp (mIter (mVar 3)) (gNm 4) t_law_is_let_0 e_law_is_let_0 [4])) (mBlt bLst (mCons (mVar 3) (mNil)))) (sRet (Mi.ret (.bool false))) (fun r => .nx r)
def b_law_is_let : Rho → Fl := sSeq (sFor (mIter (mBin fIx (mIxV 0 (Mi.ret (.int 1))) (mVar 2))) (gNm 3) l_law_is_let_1) (sRet (Mi.ret (.bool true)))
def f_law_is_let : List Ent → FO := fnM b_law_is_let 5 []
def t_law_classes_0 : Mi Bool := Mi.ret true
def e_law_classes_0 : Mi PyData := mVar 5
def l_law_classes_1 : Rho → Fl := sIf (mTru (mCall f_law_is_let (aVal (mVar 0) (aVal (mVar 1) (aVal (mVar 7) (aNil)))))) (sSeq (sSet 8 (mBlt bMin (mCons (mIxV 4 (mBin fIx (mIxV 3 (mVar 7)) (Mi.ret (.int 0)))) (mCons (mIxV 4 (mBin fIx (mIxV 3 (mVar 7)) (Mi.ret (.int 1)))) (mNil))))) (sSeq (sStore 4 (mBin fIx (mIxV 3 (mVar 7)) (Mi.ret (.int 0))) (mVar 8)) (sStore 4 (mBin fIx (mIxV 3 (mVar 7)) (Mi.ret (.int 1))) (mVar 8)))) (fun r => .nx r)
def l_law_classes_2 : Rho → Fl := sFor (mRng rng1 (mCons (mLenV 3) (mNil))) (gNm 7) l_law_classes_1
def b_law_classes : Rho → Fl := sSeq (sPar 2 3 (mCons (mBlt bLen (mCons (mBin fIx (mIxV 0 (Mi.ret (.int 0))) (Mi.ret (.int 3))) (mNil))) (mCons (mBin fIx (mIxV 0 (Mi.ret (.int 0))) (Mi.ret (.int 4))) (mNil)))) (sSeq (sSetHot 4 (mComp (mRng rng1 (mCons (mVar 2) (mNil))) (gNm 5) t_law_classes_0 e_law_classes_0 [5])) (sSeq (sFor (mRng rng1 (mCons (mVar 2) (mNil))) (gNm 6) l_law_classes_2) (sRet (mVar 4))))
def f_law_classes : List Ent → FO := fnM b_law_classes 9 []
def t_law_lot_right_0 : Mi Bool := mTst cEq (mIxV 3 (mVar 7)) (mIxV 3 (mVar 5))
def e_law_lot_right_0 : Mi PyData := mVar 7
def l_law_lot_right_1 : Rho → Fl := sSeq (sSet 6 (mBlt bTup (mCons (mOfF (mComp (mRng rng1 (mCons (mBlt bLen (mCons (mIxV 4 (Mi.ret (.int 3))) (mNil))) (mNil))) (gNm 7) t_law_lot_right_0 e_law_lot_right_0 [7])) (mNil)))) (sIf (tOrM (mTst cNe (mBlt bRepr (mCons (mCall f_region (aVal (mVar 1) (aVal (mVar 2) (aVal (mVar 5) (aNil))))) (mNil))) (mBlt bRepr (mCons (mVar 6) (mNil)))) (mTst cNe (mCall f_region (aVal (mVar 1) (aVal (mVar 2) (aVal (mIxV 6 (Mi.ret (.int 0))) (aNil))))) (mVar 6))) (sRet (Mi.ret (.bool false))) (fun r => .nx r))
def t_law_lot_right_2 : Mi Bool := mTst cNotIn (mVar 11) (mVar 2)
def e_law_lot_right_2 : Mi PyData := mVar 11
def t_law_lot_right_3 : Mi Bool := mTst cEq (mOfF (mComp (mIter (mVar 10)) (gNm 11) t_law_lot_right_2 e_law_lot_right_2 [11])) (mLst (mNil))
def e_law_lot_right_3 : Mi PyData := mVar 10
def l_law_lot_right_4 : Rho → Fl := sSeq (sSetHot 9 (mComp (mIter (mBin fIx (mIxV 1 (Mi.ret (.int 1))) (mVar 8))) (gNm 10) t_law_lot_right_3 e_law_lot_right_3 [10])) (sSeq (sIf (mTst cNe (mBlt bRepr (mCons (mCall f_free (aVal (mVar 1) (aVal (mVar 2) (aVal (mVar 8) (aNil))))) (mNil))) (mBlt bRepr (mCons (mBin (fB cEq) (mVar 9) (mLst (mNil))) (mNil)))) (sRet (Mi.ret (.bool false))) (fun r => .nx r)) (sIf (mTst cNe (mCall f_barring (aVal (mVar 1) (aVal (mVar 2) (aVal (mVar 8) (aNil))))) (mIf (mTst cNe (mVar 9) (mLst (mNil))) (mIxV 9 (Mi.ret (.int 0))) (Mi.ret .none))) (sRet (Mi.ret (.bool false))) (fun r => .nx r)))
def t_law_lot_right_5 : Mi Bool := mTst cNotIn (mVar 7) (mVar 13)
def e_law_lot_right_5 : Mi PyData := mVar 7
def b_law_lot_right : Rho → Fl := sSeq (sAsg (gTp 2 (gCn (gNm 3) (gCn (gNm 4) (gN0)))) (mTup (mCons (mCall f_law_classes (aVal (mVar 1) (aVal (mVar 2) (aNil)))) (mCons (mIxV 1 (Mi.ret (.int 0))) (mNil))))) (sSeq (sFor (mRng rng1 (mCons (mBlt bLen (mCons (mIxV 4 (Mi.ret (.int 3))) (mNil))) (mNil))) (gNm 5) l_law_lot_right_1) (sSeq (sFor (mRng rng1 (mCons (mBlt bLen (mCons (mIxV 4 (Mi.ret (.int 4))) (mNil))) (mNil))) (gNm 8) l_law_lot_right_4) (sSeq (sAsg (gTp 2 (gCn (gNm 12) (gCn (gNm 5) (gN0)))) (mTup (mCons (mBlt bTup (mCons (mCall f_law_some (aHot 0 (aVal (mBlt bLst (mCons (mVar 2) (mNil))) (aNil)))) (mNil))) (mCons (mCall f_law_take (aHot 0 (aVal (mBlt bLen (mCons (mIxV 4 (Mi.ret (.int 3))) (mNil))) (aNil)))) (mNil))))) (sSeq (sSet 13 (mCall f_region (aVal (mVar 1) (aVal (mVar 12) (aVal (mVar 5) (aNil)))))) (sRet (mBin (fB cEq) (mOfF (mComp (mIter (mCall f_region (aVal (mVar 1) (aVal (mVar 2) (aVal (mVar 5) (aNil)))))) (gNm 7) t_law_lot_right_5 e_law_lot_right_5 [7])) (mLst (mNil))))))))
def f_law_lot_right : List Ent → FO := fnM b_law_lot_right 14 [0]
end Sh
set_option maxHeartbeats 1000000
namespace Dn
open PySem PySem.Spec L2
/-! ## more of the mirrors, worked out -/
@[simp] theorem e_setE (i : Nat) (m : Mi Ent) (r9 : Rho) : sSetE i m r9 = (sBind m fun en r => .nx (r.set i (some en))) r9 := rfl
@[simp] theorem e_retE (m : Mi Ent) (r9 : Rho) : sRetE m r9 = (sBind m fun en r => .rt (.tree en) r) r9 := rfl
@[simp] theorem e_entF (m : Mi (List PyData)) (r9 : Rho) : mEntF m r9 = (m.bind fun ds => Mi.ret (.hot ds)) r9 := rfl
@[simp] theorem e_callE (fm : List Ent → FO) (ms : Mi (List AEnt)) (r9 : Rho) : mCallE fm ms r9 = (ms.bind fun as r => match entsOf as r with
  | none => .bad
  | some es => if (hix as).Nodup then (match fm es with
      | .rt (.fresh ds) outs => .ok (.hot ds) (upHot r (hix as) outs)
      | .rt (.tree e) outs => .ok e (upHot r (hix as) outs)
      | .rt (.cold _) _ => .bad
      | .ex c w outs => .ex c w (upHot r (hix as) outs)
      | .bad => .bad) else .bad) r9 := rfl
@[simp] theorem e_sortD (i : Nat) (r : Rho) : mSortD i r = match hotE r i with
  | some en => (match dkeys en with
    | some ns => if ns.length < 64 then .ok (.list ((srtI ns).map .int)) r else .bad
    | none => .bad)
  | none => .bad := rfl
@[simp] theorem e_dictOf (r : Rho) (i : Nat) : dictOf r i = match r[i]? with
  | some (some (.hotD kvs)) => some kvs
  | _ => none := rfl
@[simp] theorem e_dlOf (r : Rho) (i : Nat) : dlOf r i = match r[i]? with
  | some (some (.hotDL kvs)) => some kvs
  | _ => none := rfl
@[simp] theorem e_dict0 (r9 : Rho) : mDict0 r9 = (Mi.ret (.hotD [])) r9 := rfl
@[simp] theorem e_dictL0 (r9 : Rho) : mDictL0 r9 = (Mi.ret (.hotDL [])) r9 := rfl
@[simp] theorem e_getD (i : Nat) (mk : Mi PyData) (r : Rho) : mGetD i mk r = match dictOf r i with
  | some _ => (mk.bind fun k r' => match dictOf r' i with
    | some kvs => (match dget kvs k with
      | some d => if (keyOf k).isSome then .ok d r' else .bad
      | none => .bad)
    | none => .bad) r
  | none => .bad := rfl
@[simp] theorem e_get2 (i : Nat) (mk mx : Mi PyData) (r : Rho) : mGet2 i mk mx r = match dictOf r i with
  | some _ => (mk.bind fun k => mx.bind fun z r' => match dictOf r' i with
    | some kvs => if (keyOf k).isSome then .ok ((dget kvs k).getD z) r' else .bad
    | none => .bad) r
  | none => .bad := rfl
@[simp] theorem e_putD (i : Nat) (mk mx : Mi PyData) (r9 : Rho) : sPutD i mk mx r9 = (sBind mx fun d r => match dictOf r i with
  | none => .bad
  | some _ => sBind mk (fun k r' => match dictOf r' i with
    | some kvs => if (keyOf k).isSome ∧ kvs.length < 16777216 then .nx (r'.set i (some (.hotD (dput kvs k d)))) else .bad
    | none => .bad) r) r9 := rfl
@[simp] theorem e_dlapp (i j : Nat) (mk : Mi PyData) (r : Rho) : sDLApp i j mk r = match dlOf r i with
  | some _ => sBind mk (fun k r' => match dlOf r' i, r'[j]? with
    | some kvss, some (some (.val d)) => if (keyOf k).isSome ∧ kvss.length < 16777216 ∧ ((dget kvss k).getD []).length < 16777216 then .nx (r'.set i (some (.hotDL (lapp kvss k d)))) else .bad
    | _, _ => .bad) r
  | none => .bad := rfl
@[simp] theorem e_tupDL (i : Nat) (mk : Mi PyData) (r : Rho) : mTupDL i mk r = match dlOf r i with
  | some _ => (mk.bind fun k r' => match dlOf r' i with
    | some kvss => (match dget kvss k with
      | some xs => if (keyOf k).isSome then .ok (.tuple xs) r' else .bad
      | none => .bad)
    | none => .bad) r
  | none => .bad := rfl
@[simp] theorem e_seqAt (r : Rho) (i : Nat) : seqAtV r i = match r[i]? with
  | some (some (.hot xs)) => some (.list xs)
  | some (some (.val d)) => some d
  | _ => none := rfl
@[simp] theorem e_tstR (f : PyData → PyData → Option Bool) (ma : Mi PyData) (i : Nat) (r9 : Rho) : mTstR f ma i r9 = (ma.bind fun a r => match seqAtV r i with
  | some d => (match f a d with
    | some k => .ok k r
    | none => .bad)
  | none => .bad) r9 := rfl
@[simp] theorem e_tstL (f : PyData → PyData → Option Bool) (i : Nat) (mb : Mi PyData) (r : Rho) : mTstL f i mb r = match seqAtV r i with
  | some _ => (mb.bind fun b r' => match seqAtV r' i with
    | some d => (match f d b with
      | some k => .ok k r'
      | none => .bad)
    | none => .bad) r
  | none => .bad := rfl
@[simp] theorem e_ifL (t : Mi Bool) (ma mb : Mi (List PyData)) (r9 : Rho) : mIfL t ma mb r9 = (t.bind fun k => if k then ma else mb) r9 := rfl
@[simp] theorem e_thk (th : Out PyData) (r : Rho) : mThk th r = match th with
  | .ok d _ => .ok d r
  | .ex c w _ => .ex c w r
  | .bad => .bad := by cases th <;> rfl
@[simp] theorem e_lam (fm : Out PyData → List PyData → FT) (m : Mi PyData) (ds : List PyData) (r : Rho) : mLam fm m ds r = match fm (m (erase r)) ds with
  | .rt d => .ok d r
  | .ex c w => .ex c w r
  | .bad => .bad := rfl
@[simp] theorem e_keyI (i : Int) : keyOf (.int i) = some (.inl i) := rfl
end Dn
set_option maxHeartbeats 1000000
namespace Sh
open PySem PySem.Spec Dn L2
theorem is_number_int (i : Int) : f_is_number [.val (.int i)] = .rt (.cold (.bool true)) [] := rfl
theorem is_number_none : f_is_number [.val .none] = .rt (.cold (.bool false)) [] := rfl
theorem is_number_str (x : Str) : f_is_number [.val (.str x)] = .rt (.cold (.bool false)) [] := rfl
theorem is_number_tup (x : List PyData) : f_is_number [.val (.tuple x)] = .rt (.cold (.bool false)) [] := rfl
theorem is_from_int (n l m : Int) : f_is_from [.val (.int n), .val (.int l), .val (.int m)] = .rt (.cold (.bool (decide (l ≤ n) && decide (n ≤ m)))) [] := by
  by_cases h : l ≤ n <;> by_cases h2 : n ≤ m <;> simp [f_is_from, b_is_from, is_number_int, h, h2]
theorem is_from_no {d : PyData} (l m : Int) (h : f_is_number [.val d] = .rt (.cold (.bool false)) []) : f_is_from [.val d, .val (.int l), .val (.int m)] = .rt (.cold (.bool false)) [] := by
  simp [f_is_from, b_is_from, h]
theorem is_index_int (i n : Int) : f_is_index [.val (.int i), .val (.int n)] = .rt (.cold (.bool (decide (0 ≤ i) && decide (i ≤ n - 1)))) [] := by
  have e : fSub (.int n) (.int 1) = some (.int (n - 1)) := rfl
  simp [f_is_index, b_is_index, is_from_int, e]
theorem is_index_no {d : PyData} (n : Int) (h : f_is_number [.val d] = .rt (.cold (.bool false)) []) : f_is_index [.val d, .val (.int n)] = .rt (.cold (.bool false)) [] := by
  have e : fSub (.int n) (.int 1) = some (.int (n - 1)) := rfl
  simp [f_is_index, b_is_index, is_from_no _ _ h, e]
theorem is_tuple_of_tup (xs : List PyData) (l m : Int) : f_is_tuple_of [.val (.tuple xs), .val (.int l), .val (.int m)] = .rt (.cold (.bool (decide (l ≤ (xs.length : Int)) && decide ((xs.length : Int) ≤ m)))) [] := by
  by_cases h : l ≤ (xs.length : Int) <;> by_cases h2 : (xs.length : Int) ≤ m <;> simp [f_is_tuple_of, b_is_tuple_of, h, h2]
def asc (m : Int) : Int → List Int → Bool
  | _, [] => true
  | a, p :: r => decide (a < p) && (decide (p < m) && asc m p r)
theorem asc_loop (m : Int) (t : PyData) : ∀ (ns : List Int) (a : Int) (x : Option Ent), ∃ r', forL (gNm 3) l_is_ascending_0 (ns.map .int) [some (.val t), some (.val (.int m)), some (.val (.int a)), x] = if asc m a ns then .nx r' else .rt (.cold (.bool false)) r'
  | [], a, x => ⟨_, by simp [asc]; rfl⟩
  | p :: r, a, x => by
    rw [List.map_cons, e_forc]
    by_cases h1 : a < p
    · by_cases h2 : p < m
      · obtain ⟨r', e⟩ := asc_loop m t r p (some (.val (.int p)))
        have st : l_is_ascending_0 [some (.val t), some (.val (.int m)), some (.val (.int a)), some (.val (.int p))] = .nx [some (.val t), some (.val (.int m)), some (.val (.int p)), some (.val (.int p))] := by
          simp [l_is_ascending_0, is_number_int, h1, h2]
        refine ⟨r', ?_⟩
        show (match l_is_ascending_0 [some (.val t), some (.val (.int m)), some (.val (.int a)), some (.val (.int p))] with
          | .nx r2 => _
          | .ct r2 => _
          | .bk r2 => _
          | .rt d r2 => _
          | .ex c w r2 => _
          | .bad => _) = _
        rw [st]
        simpa [asc, h1, h2] using e
      · have st : l_is_ascending_0 [some (.val t), some (.val (.int m)), some (.val (.int a)), some (.val (.int p))] = .rt (.cold (.bool false)) [some (.val t), some (.val (.int m)), some (.val (.int a)), some (.val (.int p))] := by
          simp [l_is_ascending_0, is_number_int, h1, h2]
        exact ⟨_, by simp [st, asc, h2]; rfl⟩
    · have st : l_is_ascending_0 [some (.val t), some (.val (.int m)), some (.val (.int a)), some (.val (.int p))] = .rt (.cold (.bool false)) [some (.val t), some (.val (.int m)), some (.val (.int a)), some (.val (.int p))] := by
        simp [l_is_ascending_0, is_number_int, h1]
      exact ⟨_, by simp [st, asc, h1]; rfl⟩
theorem asc_ints (ns : List Int) (m : Int) : f_is_ascending [.val (tupD ns), .val (.int m)] = .rt (.cold (.bool (asc m (-1) ns))) [] := by
  obtain ⟨r', e⟩ := asc_loop m (.tuple (ns.map .int)) ns (-1) none
  simp [f_is_ascending, b_is_ascending, tupD, e]
  cases asc m (-1) ns <;> simp
theorem asc_none (m : Int) : f_is_ascending [.val .none, .val (.int m)] = .rt (.cold (.bool false)) [] := by
  simp [f_is_ascending, b_is_ascending]
theorem asc_int (i m : Int) : f_is_ascending [.val (.int i), .val (.int m)] = .rt (.cold (.bool false)) [] := by
  simp [f_is_ascending, b_is_ascending]
theorem asc_str (i : Str) (m : Int) : f_is_ascending [.val (.str i), .val (.int m)] = .rt (.cold (.bool false)) [] := by
  simp [f_is_ascending, b_is_ascending]
theorem asc_odd (d : PyData) (ds : List PyData) (m : Int) (h : f_is_number [.val d] = .rt (.cold (.bool false)) []) : f_is_ascending [.val (.tuple (d :: ds)), .val (.int m)] = .rt (.cold (.bool false)) [] := by
  simp [f_is_ascending, b_is_ascending, e_forc, l_is_ascending_0, h]
/-! ### rigs -/
structure Rig where
  n : Nat
  q : Nat
  cures : List (List Int)
  signs : List (List Int)
  moves : List (List Int)
def Rig.cd (g : Rig) : PyData := .tuple (g.cures.map tupD)
def Rig.sd (g : Rig) : PyData := .tuple (g.signs.map tupD)
def Rig.md (g : Rig) : PyData := .tuple (g.moves.map tupD)
def Rig.d (g : Rig) : PyData := .tuple [.int g.n, .int g.q, g.cd, g.sd, g.md]
def sgnOk (n : Nat) (s : List Int) : Prop := s.length = n ∧ ∀ i ∈ s, 0 ≤ i ∧ i ≤ 9
def mvOk (m : Nat) (p : List Int) : Prop := ∃ a b : Int, p = [a, b] ∧ 0 ≤ a ∧ a < b ∧ b < m
structure Rig.ok (g : Rig) : Prop where
  n1 : 1 ≤ g.n
  n2 : g.n ≤ 24
  q1 : 1 ≤ g.q
  q2 : g.q ≤ 16
  clen : g.cures.length = g.n
  casc : ∀ c ∈ g.cures, asc g.q (-1) c = true
  s1 : 1 ≤ g.signs.length
  s2 : g.signs.length ≤ 40
  sok : ∀ s ∈ g.signs, sgnOk g.n s
  m2 : g.moves.length ≤ 200
  mok : ∀ p ∈ g.moves, mvOk g.signs.length p
  mord : g.moves.Pairwise fun a b => HT.lexLt a b = true
theorem enumD_at : ∀ (ds : List PyData) (k j : Nat) (d : PyData), (enumD k ds)[j]? = some d → ∃ e, ds[j]? = some e ∧ d = .tuple [.int ((k + j : Nat)), e]
  | [], _, _, _, h => by simp [enumD] at h
  | x :: xs, k, 0, d, h => by
    simp [enumD] at h
    exact ⟨x, rfl, by rw [← h]; rfl⟩
  | x :: xs, k, j + 1, d, h => by
    obtain ⟨e, h1, h2⟩ := enumD_at xs (k + 1) j d (by simpa [enumD] using h)
    refine ⟨e, by simpa using h1, ?_⟩
    rw [h2, show k + 1 + j = k + (j + 1) by omega]
theorem seqNx {s u : Rho → Fl} {r r1 : Rho} (h : s r = .nx r1) : sSeq s u r = u r1 := by rw [e_sSeq, h]
theorem forS {mi : Mi (List PyData)} {g : PyData → Rho → Option Rho} {b : Rho → Fl} {r r0 r' : Rho} {ds : List PyData} (h : mi r = .ok ds r0) (lp : forL g b ds r0 = .nx r') : sFor mi g b r = .nx r' := by
  rw [e_for, e_sBind, h]
  exact lp
theorem fnRt2 {body : Rho → Fl} {n : Nat} {P : List Nat} {es : List Ent} {d : Rv} {r0 r : Rho} {outs : List Ent} (h0 : hotIdx 0 es = P) (hr : rho0 n es = r0) (h : body r0 = .rt d r) (ho : outsOf r P = outs) : fnM body n P es = .rt d outs := by
  unfold fnM
  rw [if_pos h0, hr, h, ← ho]
theorem wrong_cures_ok {g : Rig} (ok : g.ok) : f_wrong_cures [.val g.cd, .val (.int g.n), .val (.int g.q)] = .rt (.cold .none) [] := by
  obtain ⟨r', e, x, y, hr⟩ := forL_inv (g := gTp 2 (gCn (gNm 3) (gCn (gNm 4) gN0))) (b := l_wrong_cures_0) (fun _ r => ∃ x y, r = [some (.val g.cd), some (.val (.int g.n)), some (.val (.int g.q)), x, y]) (enumD 0 (g.cures.map tupD)) 0 [some (.val g.cd), some (.val (.int g.n)), some (.val (.int g.q)), none, none] ⟨none, none, rfl⟩
    (fun j d r hd ⟨x, y, hr⟩ => by
      obtain ⟨e, h1, h2⟩ := enumD_at _ _ _ _ hd
      rw [List.getElem?_map] at h1
      obtain ⟨c, hc, rfl⟩ := Option.map_eq_some_iff.mp h1
      have ha := ok.casc c (List.mem_of_getElem? hc)
      subst h2
      subst hr
      refine ⟨[some (.val g.cd), some (.val (.int g.n)), some (.val (.int g.q)), some (.val (.int ((0 + j : Nat)))), some (.val (tupD c))], [some (.val g.cd), some (.val (.int g.n)), some (.val (.int g.q)), some (.val (.int ((0 + j : Nat)))), some (.val (tupD c))], rfl, ?_, _, _, rfl⟩
      simp [l_wrong_cures_0, asc_ints, ha])
  simp only [Rig.cd] at *
  simp [f_wrong_cures, b_wrong_cures, is_tuple_of_tup, ok.clen, e]
theorem boolsRep : ∀ n : Nat, boolsOf (List.replicate n (.bool true)) = some (List.replicate n true)
  | 0 => rfl
  | n + 1 => by
    rw [List.replicate_succ, List.replicate_succ]
    show (boolsOf (List.replicate n (.bool true))).map (true :: ·) = _
    rw [boolsRep n]
    rfl
theorem are_signs_ok (n : Nat) (s : List Int) (h : sgnOk n s) (h2 : n ≤ 24) : f_are_signs [.val (tupD s), .val (.int n)] = .rt (.cold (.bool true)) [] := by
  have hc := comp_pure (v := 2) (t := t_are_signs_0) (m := e_are_signs_0) (mi := mIter (mVar 0)) (r := [some (.val (tupD s)), some (.val (.int n)), none]) (r0 := [some (.val (tupD s)), some (.val (.int n)), none])
    (ds := s.map .int) (fun _ => true) (fun _ => .bool true) (by simp [tupD]) rfl (by simp [h.1]; omega) (fun d hd => by
      obtain ⟨i, hi, rfl⟩ := List.mem_map.mp hd
      have z := h.2 i hi
      exact ⟨by simp [t_are_signs_0], fun _ => by simp [e_are_signs_0, is_from_int, z.1, z.2]⟩)
  rw [List.filter_eq_self.mpr (fun _ _ => rfl), List.map_map] at hc
  have e : (s.map ((fun _ => PyData.bool true) ∘ PyData.int)) = List.replicate s.length (.bool true) := by
    rw [List.eq_replicate_iff]
    simp
  rw [e] at hc
  simp only [tupD] at hc
  simp [f_are_signs, b_are_signs, tupD, is_tuple_of_tup, h.1, hc, bAll, boolsRep]
theorem wrong_signs_ok {g : Rig} (ok : g.ok) : f_wrong_signs [.val g.sd, .val (.int g.n)] = .rt (.cold .none) [] := by
  obtain ⟨r', e, x, y, hr⟩ := forL_inv (g := gTp 2 (gCn (gNm 2) (gCn (gNm 3) gN0))) (b := l_wrong_signs_0) (fun _ r => ∃ x y, r = [some (.val g.sd), some (.val (.int g.n)), x, y]) (enumD 0 (g.signs.map tupD)) 0 [some (.val g.sd), some (.val (.int g.n)), none, none] ⟨none, none, rfl⟩
    (fun j d r hd ⟨x, y, hr⟩ => by
      obtain ⟨e, h1, h2⟩ := enumD_at _ _ _ _ hd
      rw [List.getElem?_map] at h1
      obtain ⟨c, hc, rfl⟩ := Option.map_eq_some_iff.mp h1
      have ha := are_signs_ok g.n c (ok.sok c (List.mem_of_getElem? hc)) ok.n2
      subst h2
      subst hr
      refine ⟨[some (.val g.sd), some (.val (.int g.n)), some (.val (.int ((0 + j : Nat)))), some (.val (tupD c))], [some (.val g.sd), some (.val (.int g.n)), some (.val (.int ((0 + j : Nat)))), some (.val (tupD c))], rfl, ?_, _, _, rfl⟩
      simp [l_wrong_signs_0, ha])
  have a1 : (1 : Int) ≤ g.signs.length := by have := ok.s1; omega
  have a2 : (g.signs.length : Int) ≤ 40 := by have := ok.s2; omega
  simp only [Rig.sd] at *
  simp [f_wrong_signs, b_wrong_signs, is_tuple_of_tup, a1, a2, e]
theorem intsMap : ∀ ns : List Int, intsOf (ns.map .int) = some ns
  | [] => rfl
  | n :: ns => by
    show (intsOf (ns.map .int)).map (n :: ·) = _
    rw [intsMap ns]
    rfl
@[simp] theorem cLtT (xs ys : List Int) : cLt (tupD xs) (tupD ys) = some (HT.lexLt xs ys) := by
  show (match intsOf (xs.map .int), intsOf (ys.map .int) with
    | some ns, some ms => some (HT.lexLt ns ms)
    | _, _ => none) = _
  rw [intsMap, intsMap]
theorem wrong_moves_ok {g : Rig} (ok : g.ok) : f_wrong_moves [.val g.md, .val (.int g.signs.length)] = .rt (.cold .none) [] := by
  obtain ⟨r', e, A, x, y, hr, _⟩ := forL_inv (g := gTp 2 (gCn (gNm 3) (gCn (gNm 4) gN0))) (b := l_wrong_moves_0)
    (fun k r => ∃ A x y, r = [some (.val g.md), some (.val (.int g.signs.length)), some (.val (tupD A)), x, y] ∧ ((k = 0 ∧ A = [-1, -1]) ∨ ∃ k', k = k' + 1 ∧ g.moves[k']? = some A)) (enumD 0 (g.moves.map tupD)) 0 [some (.val g.md), some (.val (.int g.signs.length)), some (.val (tupD [-1, -1])), none, none] ⟨_, none, none, rfl, .inl ⟨rfl, rfl⟩⟩
    (fun j d r hd ⟨A, x, y, hr, hA⟩ => by
      obtain ⟨e, h1, h2⟩ := enumD_at _ _ _ _ hd
      rw [List.getElem?_map] at h1
      obtain ⟨c, hc, rfl⟩ := Option.map_eq_some_iff.mp h1
      obtain ⟨a, b, rfl, p0, p1, p2⟩ := ok.mok c (List.mem_of_getElem? hc)
      have ha : asc g.signs.length (-1) [a, b] = true := by
        simp only [asc, Bool.and_eq_true, decide_eq_true_eq, and_true]
        omega
      have hlt : HT.lexLt A [a, b] = true := by
        rcases hA with ⟨_, rfl⟩ | ⟨k', hk, hA⟩
        · rw [HT.lexLt_cons, if_neg (by omega)]
          simp
          omega
        · rw [Nat.zero_add] at hk
          subst hk
          obtain ⟨i1, e1⟩ := List.getElem?_eq_some_iff.mp hA
          obtain ⟨i2, e2⟩ := List.getElem?_eq_some_iff.mp hc
          have z := List.pairwise_iff_getElem.mp ok.mord k' (k' + 1) i1 i2 (by omega)
          rw [e1, e2] at z
          exact z
      subst h2
      subst hr
      refine ⟨_, [some (.val g.md), some (.val (.int g.signs.length)), some (.val (tupD [a, b])), some (.val (.int ((0 + j : Nat)))), some (.val (tupD [a, b]))], rfl, ?_, _, _, _, rfl, .inr ⟨j, by omega, hc⟩⟩
      have it : f_is_tuple_of [.val (tupD [a, b]), .val (.int 2), .val (.int 2)] = .rt (.cold (.bool true)) [] := by
        have z := is_tuple_of_tup ([a, b].map .int) 2 2
        simpa [tupD] using z
      simp [l_wrong_moves_0, asc_ints, ha, hlt, it])
  have a2 : (g.moves.length : Int) ≤ 200 := by have := ok.m2; omega
  have z : tupD [-1, -1] = .tuple [.int (-1), .int (-1)] := rfl
  rw [z] at e
  simp only [Rig.md] at *
  simp [f_wrong_moves, b_wrong_moves, is_tuple_of_tup, a2, e]
theorem wrong_place_ok {g : Rig} (ok : g.ok) : f_wrong_place [.val g.d] = .rt (.cold .none) [] := by
  have h1 := wrong_cures_ok ok
  have h2 := wrong_signs_ok ok
  have h3 := wrong_moves_ok ok
  have a1 : (1 : Int) ≤ g.n := by have := ok.n1; omega
  have a2 : (g.n : Int) ≤ 24 := by have := ok.n2; omega
  have a3 : (1 : Int) ≤ g.q := by have := ok.q1; omega
  have a4 : (g.q : Int) ≤ 16 := by have := ok.q2; omega
  have hl : bLen [g.sd] = some (.int g.signs.length) := by
    show some (PyData.int ((g.signs.map tupD).length : Nat)) = _
    rw [List.length_map]
  simp [f_wrong_place, b_wrong_place, Rig.d, is_tuple_of_tup, is_from_int, gTp, gCn, gN0, a1, a2, a3, a4, h1, h2, h3, hl]
theorem made_rig_ok {g : Rig} (ok : g.ok) : f_made_rig [.val g.d] = .rt (.cold g.d) [] := by
  simp [f_made_rig, b_made_rig, wrong_place_ok ok]
theorem rig_n (g : Rig) : fIx g.d (.int 0) = some (.int g.n) := rfl
theorem rig_q (g : Rig) : fIx g.d (.int 1) = some (.int g.q) := rfl
theorem rig_c (g : Rig) : fIx g.d (.int 2) = some g.cd := rfl
theorem rig_s (g : Rig) : fIx g.d (.int 3) = some g.sd := rfl
theorem rig_m (g : Rig) : fIx g.d (.int 4) = some g.md := rfl
theorem sd_len (g : Rig) : bLen [g.sd] = some (.int g.signs.length) := by
  show some (PyData.int ((g.signs.map tupD).length : Nat)) = _
  rw [List.length_map]
theorem check_lot_ok (g : Rig) (ls : List Int) (h : asc g.n (-1) ls = true) : f_check_lot [.val g.d, .val (tupD ls)] = .rt (.cold .none) [] := by
  simp [f_check_lot, b_check_lot, rig_n, asc_ints, h]
theorem check_lot_bad (g : Rig) (d : PyData) (h : f_is_ascending [.val d, .val (.int g.n)] = .rt (.cold (.bool false)) []) : f_check_lot [.val g.d, .val d] = .ex "BadLot" (.int (-1)) [] := by
  simp [f_check_lot, b_check_lot, rig_n, h]
theorem check_ok {g : Rig} (ok : g.ok) (ls : List Int) (h : asc g.n (-1) ls = true) : f_check_rig_and_lot [.val g.d, .val (tupD ls)] = .rt (.cold .none) [] := by
  simp [f_check_rig_and_lot, b_check_rig_and_lot, made_rig_ok ok, check_lot_ok g ls h]
theorem check_bad {g : Rig} (ok : g.ok) (d : PyData) (h : f_is_ascending [.val d, .val (.int g.n)] = .rt (.cold (.bool false)) []) : f_check_rig_and_lot [.val g.d, .val d] = .ex "BadLot" (.int (-1)) [] := by
  simp [f_check_rig_and_lot, b_check_rig_and_lot, made_rig_ok ok, check_lot_bad g d h]
theorem check_setting_ok (g : Rig) {x : Int} (h0 : 0 ≤ x) (h1 : x < g.signs.length) : f_check_setting [.val g.d, .val (.int x)] = .rt (.cold .none) [] := by
  have z : x ≤ (g.signs.length : Int) - 1 := by omega
  simp [f_check_setting, b_check_setting, rig_s, sd_len, is_index_int, h0, z]
theorem check_setting_bad (g : Rig) {d : PyData} (h : f_is_index [.val d, .val (.int g.signs.length)] = .rt (.cold (.bool false)) []) : f_check_setting [.val g.d, .val d] = .ex "BadSetting" d [] := by
  simp [f_check_setting, b_check_setting, rig_s, sd_len, h]
end Sh
set_option maxHeartbeats 1000000
namespace Sh
open PySem PySem.Spec Dn L2
def rg (q : Nat) : List Int := (List.range q).map fun (i : Nat) => (i : Int)
theorem ranged_rg (q : Nat) : ranged 0 q = (rg q).map .int := by
  unfold ranged rg
  rw [List.map_map]
  congr 1
  funext i
  simp
theorem rg_len (q : Nat) : (rg q).length = q := by simp [rg]
theorem rg_mem {q : Nat} {r : Int} : r ∈ rg q ↔ 0 ≤ r ∧ r < q := by
  unfold rg
  rw [List.mem_map]
  constructor
  · rintro ⟨i, hi, rfl⟩
    have := List.mem_range.mp hi
    omega
  · rintro ⟨h0, h1⟩
    exact ⟨r.toNat, List.mem_range.mpr (by omega), by omega⟩
/-! ### shapes -/
theorem canInts : ∀ c : List Int, PyData.canLayAll0 (c.map .int) = true
  | [] => rfl
  | _ :: r => canInts r
theorem depthInts : ∀ c : List Int, PyData.depthAll (c.map .int) = 0
  | [] => rfl
  | _ :: r => by
    show max 0 (PyData.depthAll (r.map .int)) = 0
    rw [depthInts r]
    rfl
theorem canT (c : List Int) : PyData.canLay0 (tupD c) = true := canInts c
theorem depT (c : List Int) : PyData.depth (tupD c) = 1 := by
  show PyData.depthAll (c.map .int) + 1 = 1
  rw [depthInts]
theorem canTs : ∀ c : List (List Int), PyData.canLayAll0 (c.map tupD) = true
  | [] => rfl
  | x :: r => by
    show (PyData.canLay0 (tupD x) && PyData.canLayAll0 (r.map tupD)) = true
    rw [canT, canTs r]
    rfl
theorem depTs : ∀ c : List (List Int), PyData.depthAll (c.map tupD) ≤ 1
  | [] => Nat.zero_le _
  | x :: r => by
    show max (PyData.depth (tupD x)) (PyData.depthAll (r.map tupD)) ≤ 1
    rw [depT]
    have := depTs r
    omega
theorem shOf {d : PyData} (h1 : PyData.canLay0 d = true) (h2 : PyData.depth d ≤ 3) : SeqAt.shaped d = true := by
  unfold SeqAt.shaped
  rw [h1]
  simp
  omega
theorem shT (c : List Int) : SeqAt.shaped (tupD c) = true := shOf (canT c) (by rw [depT]; decide)
theorem shL (c : List Int) : SeqAt.shaped (.list (c.map .int)) = true := shOf (canInts c) (by
  show PyData.depthAll (c.map .int) + 1 ≤ 3
  rw [depthInts]
  decide)
theorem shLT (c : List (List Int)) : SeqAt.shaped (.list (c.map tupD)) = true := shOf (canTs c) (by
  show PyData.depthAll (c.map tupD) + 1 ≤ 3
  have := depTs c
  omega)
theorem shTT (c : List (List Int)) : SeqAt.shaped (.tuple (c.map tupD)) = true := shOf (canTs c) (by
  show PyData.depthAll (c.map tupD) + 1 ≤ 3
  have := depTs c
  omega)
theorem shI (i : Int) : SeqAt.shaped (.int i) = true := rfl
/-! ### equality -/
theorem eqvI (i j : Int) : PyData.eqv (.int i) (.int j) = decide (i = j) := by
  show (i == j) = _
  rfl
theorem eqvIs : ∀ xs ys : List Int, PyData.eqvAll (xs.map .int) (ys.map .int) = decide (xs = ys)
  | [], [] => rfl
  | [], _ :: _ => rfl
  | _ :: _, [] => rfl
  | x :: xs, y :: ys => by
    show (PyData.eqv (.int x) (.int y) && PyData.eqvAll (xs.map .int) (ys.map .int)) = _
    rw [eqvI, eqvIs xs ys]
    by_cases h : x = y <;> by_cases h2 : xs = ys <;> simp [h, h2]
theorem eqvT (xs ys : List Int) : PyData.eqv (tupD xs) (tupD ys) = decide (xs = ys) := eqvIs xs ys
@[simp] theorem cEqI (i j : Int) : cEq (.int i) (.int j) = some (decide (i = j)) := by
  show (if SeqAt.shaped (.int i) = true ∧ SeqAt.shaped (.int j) = true then some (PyData.eqv (.int i) (.int j)) else none) = _
  rw [if_pos ⟨rfl, rfl⟩, eqvI]
@[simp] theorem cNeI (i j : Int) : cNe (.int i) (.int j) = some (!decide (i = j)) := by
  show (if SeqAt.shaped (.int i) = true ∧ SeqAt.shaped (.int j) = true then some (!PyData.eqv (.int i) (.int j)) else none) = _
  rw [if_pos ⟨rfl, rfl⟩, eqvI]
@[simp] theorem cEqT (xs ys : List Int) : cEq (tupD xs) (tupD ys) = some (decide (xs = ys)) := by
  show (if SeqAt.shaped (tupD xs) = true ∧ SeqAt.shaped (tupD ys) = true then some (PyData.eqv (tupD xs) (tupD ys)) else none) = _
  rw [if_pos ⟨shT _, shT _⟩, eqvT]
@[simp] theorem cNeT (xs ys : List Int) : cNe (tupD xs) (tupD ys) = some (!decide (xs = ys)) := by
  show (if SeqAt.shaped (tupD xs) = true ∧ SeqAt.shaped (tupD ys) = true then some (!PyData.eqv (tupD xs) (tupD ys)) else none) = _
  rw [if_pos ⟨shT _, shT _⟩, eqvT]
@[simp] theorem cEqLi (xs ys : List Int) : cEq (.list (xs.map .int)) (.list (ys.map .int)) = some (decide (xs = ys)) := by
  show (if SeqAt.shaped (.list (xs.map .int)) = true ∧ SeqAt.shaped (.list (ys.map .int)) = true then some (PyData.eqvAll (xs.map .int) (ys.map .int)) else none) = _
  rw [if_pos ⟨shL _, shL _⟩, eqvIs]
@[simp] theorem cNeLi (xs ys : List Int) : cNe (.list (xs.map .int)) (.list (ys.map .int)) = some (!decide (xs = ys)) := by
  show (if SeqAt.shaped (.list (xs.map .int)) = true ∧ SeqAt.shaped (.list (ys.map .int)) = true then some (!PyData.eqvAll (xs.map .int) (ys.map .int)) else none) = _
  rw [if_pos ⟨shL _, shL _⟩, eqvIs]
theorem anyInts (r : Int) : ∀ c : List Int, ((c.map PyData.int).any fun z => PyData.eqv z (.int r)) = decide (r ∈ c)
  | [] => by simp
  | p :: c => by
    rw [List.map_cons, List.any_cons, anyInts r c, eqvI]
    by_cases h : r = p
    · simp [h]
    · have h' : ¬ p = r := fun z => h z.symm
      simp [h, h']
theorem anyTs (r : List Int) : ∀ c : List (List Int), ((c.map tupD).any fun z => PyData.eqv z (tupD r)) = decide (r ∈ c)
  | [] => by simp
  | p :: c => by
    rw [List.map_cons, List.any_cons, anyTs r c, eqvT]
    by_cases h : r = p
    · simp [h]
    · have h' : ¬ p = r := fun z => h z.symm
      simp [h, h']
@[simp] theorem cInT (r : Int) (c : List Int) : cIn (.int r) (tupD c) = some (decide (r ∈ c)) := by
  show (if SeqAt.shaped (.int r) = true ∧ SeqAt.shaped (tupD c) = true then some ((c.map PyData.int).any fun z => PyData.eqv z (.int r)) else none) = _
  rw [if_pos ⟨rfl, shT c⟩, anyInts]
@[simp] theorem cInL (r : Int) (c : List Int) : cIn (.int r) (.list (c.map .int)) = some (decide (r ∈ c)) := by
  show (if SeqAt.shaped (.int r) = true ∧ SeqAt.shaped (.list (c.map .int)) = true then some ((c.map PyData.int).any fun z => PyData.eqv z (.int r)) else none) = _
  rw [if_pos ⟨rfl, shL c⟩, anyInts]
@[simp] theorem cInLT (r : List Int) (c : List (List Int)) : cIn (tupD r) (.list (c.map tupD)) = some (decide (r ∈ c)) := by
  show (if SeqAt.shaped (tupD r) = true ∧ SeqAt.shaped (.list (c.map tupD)) = true then some ((c.map tupD).any fun z => PyData.eqv z (tupD r)) else none) = _
  rw [if_pos ⟨shT r, shLT c⟩, anyTs]
@[simp] theorem cInTT (r : List Int) (c : List (List Int)) : cIn (tupD r) (.tuple (c.map tupD)) = some (decide (r ∈ c)) := by
  show (if SeqAt.shaped (tupD r) = true ∧ SeqAt.shaped (.tuple (c.map tupD)) = true then some ((c.map tupD).any fun z => PyData.eqv z (tupD r)) else none) = _
  rw [if_pos ⟨shT r, shTT c⟩, anyTs]
@[simp] theorem cNiT (r : Int) (c : List Int) : cNotIn (.int r) (tupD c) = some (!decide (r ∈ c)) := by
  unfold cNotIn
  rw [cInT]
  rfl
@[simp] theorem cNiL (r : Int) (c : List Int) : cNotIn (.int r) (.list (c.map .int)) = some (!decide (r ∈ c)) := by
  unfold cNotIn
  rw [cInL]
  rfl
@[simp] theorem cNiLT (r : List Int) (c : List (List Int)) : cNotIn (tupD r) (.list (c.map tupD)) = some (!decide (r ∈ c)) := by
  unfold cNotIn
  rw [cInLT]
  rfl
/-! ### numbers -/
@[simp] theorem fIx0 (x : PyData) (xs : List PyData) : fIx (.list (x :: xs)) (.int 0) = some x := by
  have z := atI_nat (xs := x :: xs) (j := 0) rfl
  exact z
@[simp] theorem fIx1 (x y : PyData) (xs : List PyData) : fIx (.list (x :: y :: xs)) (.int 1) = some y := by
  have z := atI_nat (xs := x :: y :: xs) (j := 1) rfl
  exact z
@[simp] theorem ix20 : ixN 2 0 = some 0 := by decide
@[simp] theorem ix21 : ixN 2 1 = some 1 := by decide
@[simp] theorem fAddI (i j : Int) : fAdd (.int i) (.int j) = some (.int (i + j)) := rfl
@[simp] theorem fSubI (i j : Int) : fSub (.int i) (.int j) = some (.int (i - j)) := rfl
theorem fMulR (i j : Int) (h : -(2 ^ 64) < j ∧ j < 2 ^ 64) : fMul (.int i) (.int j) = some (.int (i * j)) := if_pos (.inr h)
theorem fModI (i j : Int) (h : j ≠ 0) : fMod (.int i) (.int j) = some (.int (i.fmod j)) := if_pos h
theorem fDivI (i j : Int) (h : j ≠ 0 ∧ j.natAbs < 1073741824) : fDiv (.int i) (.int j) = some (.int (i.fdiv j)) := if_pos h
@[simp] theorem bIntI (i : Int) : bInt [.int i] = some (.int i) := rfl
@[simp] theorem bIntB (k : Bool) : bInt [.bool k] = some (.int (if k then 1 else 0)) := rfl
@[simp] theorem bMaxI (i j : Int) : bMax [.int i, .int j] = some (.int (if j > i then j else i)) := rfl
@[simp] theorem bMinI (i j : Int) : bMin [.int i, .int j] = some (.int (if j < i then j else i)) := rfl
structure Inv (a b : Int) : Prop where
  a0 : 0 ≤ a
  b0 : 0 ≤ b
  b1 : b < 2147483647
abbrev src (a b : Int) : List PyData := [.int a, .int b]
theorem modM (x : Int) : fMod (.int x) (.int 2147483647) = some (.int (x.fmod 2147483647)) := fModI _ _ (by decide)
theorem modN (x : Int) : fMod (.int x) (.int 2147483629) = some (.int (x.fmod 2147483629)) := fModI _ _ (by decide)
theorem mulA (x : Int) : fMul (.int x) (.int 39373) = some (.int (x * 39373)) := fMulR _ _ (by decide)
theorem mulB (x : Int) : fMul (.int x) (.int 48271) = some (.int (x * 48271)) := fMulR _ _ (by decide)
theorem mul0 (x : Int) : fMul (.int x) (.int 0) = some (.int (x * 0)) := fMulR _ _ (by decide)
theorem mul1 (x : Int) : fMul (.int x) (.int 1) = some (.int (x * 1)) := fMulR _ _ (by decide)
theorem div32 (x : Int) : fDiv (.int x) (.int 32) = some (.int (x.fdiv 32)) := fDivI _ _ (by decide)
theorem pow18 : fPow (.int 10) (.int 18) = some (.int 1000000000000000000) := by
  simp only [fPow]
  rw [if_pos (by decide)]
  rfl
theorem take_ok {a b top : Int} (I : Inv a b) (h1 : 1 ≤ top) (h2 : top < 1073741824) : ∃ t a' b', Inv a' b' ∧ 0 ≤ t ∧ t < top ∧ f_law_take [.hot (src a b), .val (.int top)] = .rt (.cold (.int t)) [.hot (src a' b')] := by
  have ht : top ≠ 0 := by omega
  have mt : ∀ x, fMod (.int x) (.int top) = some (.int (x.fmod top)) := fun x => fModI _ _ ht
  by_cases ha : 0 < a
  · refine ⟨a.fmod top, a.fdiv top, b, ⟨Int.fdiv_nonneg I.a0 (by omega), I.b0, I.b1⟩, Int.fmod_nonneg_of_pos _ (by omega), Int.fmod_lt_of_pos _ (by omega), ?_⟩
    have dt : fDiv (.int a) (.int top) = some (.int (a.fdiv top)) := fDivI _ _ ⟨ht, by omega⟩
    simp [f_law_take, b_law_take, src, ha, mt, dt]
  · have p0 : 0 ≤ (b * 39373 + 7).fmod 2147483647 := Int.fmod_nonneg_of_pos _ (by decide)
    have p1 : (b * 39373 + 7).fmod 2147483647 < 2147483647 := Int.fmod_lt_of_pos _ (by decide)
    generalize eb : (b * 39373 + 7).fmod 2147483647 = c at p0 p1
    have mc : fMul (.int c) (.int c) = some (.int (c * c)) := fMulR _ _ ⟨by omega, by omega⟩
    refine ⟨(((c * c).fmod 2147483629).fdiv 32).fmod top, a, c, ⟨I.a0, p0, p1⟩, Int.fmod_nonneg_of_pos _ (by omega), Int.fmod_lt_of_pos _ (by omega), ?_⟩
    simp [f_law_take, b_law_take, src, ha, mt, modM, modN, mulA, div32, eb, mc]
theorem one_ok {a b : Int} (I : Inv a b) (ds : List PyData) (h1 : 1 ≤ ds.length) (h2 : ds.length < 1073741824) : ∃ a' b' d, Inv a' b' ∧ d ∈ ds ∧ f_law_one [.hot (src a b), .val (.list ds)] = .rt (.cold d) [.hot (src a' b')] := by
  obtain ⟨t, a', b', I', t0, t1, e⟩ := take_ok I (top := (ds.length : Int)) (by omega) (by omega)
  have hl : t.toNat < ds.length := by omega
  have z := atI_nat (List.getElem?_eq_getElem hl)
  have ex : ((t.toNat : Nat) : Int) = t := by omega
  rw [ex] at z
  have z' : fIx (.list ds) (.int t) = some ds[t.toNat] := z
  refine ⟨a', b', ds[t.toNat], I', List.getElem_mem hl, ?_⟩
  simp [f_law_one, b_law_one, e, z']
theorem some_ok {a b : Int} (I : Inv a b) (thing : PyData) (xs : List Int) (hi : items thing = some (xs.map .int)) (hl : xs.length < 1000) : ∃ (a' b' : Int) (ys : List Int), Inv a' b' ∧ ys.Sublist xs ∧ f_law_some [.hot (src a b), .val thing] = .rt (.cold (.list (ys.map .int))) [.hot (src a' b')] := by
  obtain ⟨acc, r', e, a', b', ys, x', I', hr, hacc, hsub⟩ := compL_inv (g := gNm 2) (t := t_law_some_0) (m := e_law_some_0) (vs := [2])
    (fun k acc r => ∃ (a b : Int) (ys : List Int) (x : Option Ent), Inv a b ∧ r = [some (.hot (src a b)), some (.val thing), x] ∧ acc = ys.map PyData.int ∧ ys.Sublist (xs.take k)) (xs.map .int) [] 0 [some (.hot (src a b)), some (.val thing), none]
    ⟨a, b, [], none, I, rfl, rfl, List.nil_sublist _⟩ (by simp; omega) (fun j d acc r hd ⟨a, b, ys, x, I, hr, hacc, hsub⟩ => by
      subst hr
      subst hacc
      rw [List.getElem?_map] at hd
      obtain ⟨i, hj, rfl⟩ := Option.map_eq_some_iff.mp hd
      obtain ⟨t, a', b', I', t0, t1, e⟩ := take_ok I (top := 2) (by omega) (by omega)
      have grow : xs.take (0 + j + 1) = xs.take (0 + j) ++ [i] := by
        rw [Nat.zero_add, List.take_add_one, hj]
        rfl
      have tt : t_law_some_0 [some (.hot (src a b)), some (.val thing), some (.val (.int i))] = .ok (decide (t = 1)) [some (.hot (src a' b')), some (.val thing), some (.val (.int i))] := by
        simp [t_law_some_0, e]
      refine ⟨[some (.hot (src a b)), some (.val thing), some (.val (.int i))], [some (.hot (src a' b')), some (.val thing), some (.val (.int i))], rfl, ?_⟩
      by_cases h : t = 1
      · refine .inr ⟨.int i, [some (.hot (src a' b')), some (.val thing), some (.val (.int i))], by rw [tt, decide_eq_true h], by simp [e_law_some_0], a', b', ys ++ [i], _, I', rfl, by simp, ?_⟩
        rw [grow]
        exact hsub.append (List.Sublist.refl _)
      · refine .inl ⟨by rw [tt, decide_eq_false h], a', b', ys, _, I', rfl, rfl, ?_⟩
        rw [grow]
        exact hsub.trans (List.sublist_append_left _ _))
  subst hr
  subst hacc
  have hs : ys.Sublist xs := hsub.trans (List.take_sublist _ _)
  refine ⟨a', b', ys, I', hs, ?_⟩
  simp [f_law_some, b_law_some, e_comp, hi, e]
end Sh
set_option maxHeartbeats 1000000
namespace Sh
open PySem PySem.Spec Dn L2
theorem mCompOf {mi : Mi (List PyData)} {g : PyData → Rho → Option Rho} {t : Mi Bool} {e : Mi PyData} {v : Nat} {r r0 r' : Rho} {ds acc : List PyData} (h : mi r = .ok ds r0) (c : compL g t e [v] ds [] r0 = .ok acc r') : mComp mi g t e [v] r = .ok acc (restR r' r0 [v]) := by
  rw [e_comp, e_bind, h]
  simp only
  rw [c]
theorem rng1_ok (q : Nat) (h : q ≤ 1000) : rng1 [.int q] = some ((rg q).map .int) := by
  simp only [rng1]
  rw [if_pos (by omega), ranged_rg]
  simp
theorem rngE {ms : Mi (List PyData)} {r : Rho} {q : Nat} (e : ms r = .ok [.int q] r) (hq : q ≤ 1000) : mRng rng1 ms r = .ok ((rg q).map .int) r := by
  unfold mRng
  rw [e_bind, e]
  show Mi.opt (rng1 [.int q]) r = _
  rw [rng1_ok q hq]
  rfl
theorem rngE2 {ms : Mi (List PyData)} {r r1 : Rho} {q : Nat} (e : ms r = .ok [.int q] r1) (hq : q ≤ 1000) : mRng rng1 ms r = .ok ((rg q).map .int) r1 := by
  unfold mRng
  rw [e_bind, e]
  show Mi.opt (rng1 [.int q]) r1 = _
  rw [rng1_ok q hq]
  rfl
theorem filt_all (L : List PyData) : ((L.filter fun _ => true).map id) = L := by
  rw [List.map_id, List.filter_eq_self.mpr (fun _ _ => rfl)]
/-! ### ascending -/
theorem asc_low {m : Int} : ∀ {xs : List Int} {a p : Int}, a ≤ p → asc m p xs = true → asc m a xs = true
  | [], _, _, _, _ => rfl
  | x :: r, a, p, h, e => by
    simp only [asc, Bool.and_eq_true, decide_eq_true_eq] at e ⊢
    exact ⟨by omega, e.2⟩
theorem asc_sub {m : Int} : ∀ {ys xs : List Int} {a : Int}, ys.Sublist xs → asc m a xs = true → asc m a ys = true
  | _, _, _, .slnil, _ => rfl
  | _, _, a, .cons x h, e => by
    simp only [asc, Bool.and_eq_true, decide_eq_true_eq] at e
    exact asc_sub h (asc_low (Int.le_of_lt e.1) e.2.2)
  | _, _, a, .cons₂ x h, e => by
    simp only [asc, Bool.and_eq_true, decide_eq_true_eq] at e ⊢
    exact ⟨e.1, e.2.1, asc_sub h e.2.2⟩
theorem asc_range (m : Int) : ∀ (k s : Nat) (a : Int), a < s → ((s + k : Nat) : Int) ≤ m → asc m a ((List.range' s k).map fun (i : Nat) => (i : Int)) = true
  | 0, _, _, _, _ => rfl
  | k + 1, s, a, h1, h2 => by
    rw [List.range'_succ, List.map_cons]
    simp only [asc, Bool.and_eq_true, decide_eq_true_eq]
    refine ⟨h1, by omega, asc_range m k (s + 1) s (by omega) (by omega)⟩
theorem asc_rg (q : Nat) (a : Int) (h : a < 0) : asc q a (rg q) = true := by
  unfold rg
  rw [List.range_eq_range']
  exact asc_range q q 0 a (by omega) (by omega)
theorem asc_mem {m : Int} : ∀ {ls : List Int} {a : Int}, asc m a ls = true → ∀ x ∈ ls, a < x ∧ x < m
  | [], _, _, _, hx => by cases hx
  | p :: r, a, h, x, hx => by
    simp only [asc, Bool.and_eq_true, decide_eq_true_eq] at h
    rcases List.mem_cons.mp hx with rfl | hx
    · exact ⟨h.1, h.2.1⟩
    · obtain ⟨h1, h2⟩ := asc_mem h.2.2 x hx
      exact ⟨by omega, h2⟩
theorem lot_in {g : Rig} {ls : List Int} (h : asc g.n (-1) ls = true) : ∀ x ∈ ls, 0 ≤ x ∧ x < g.n := fun x hx => by
  obtain ⟨h1, h2⟩ := asc_mem h x hx
  exact ⟨by omega, h2⟩
theorem asc_len {m : Int} : ∀ {ls : List Int} {a : Int}, a < m → asc m a ls = true → (ls.length : Int) ≤ m - a - 1
  | [], a, h, _ => by simp; omega
  | p :: r, a, h, e => by
    simp only [asc, Bool.and_eq_true, decide_eq_true_eq] at e
    have z := asc_len e.2.1 e.2.2
    rw [List.length_cons]
    omega
theorem lot_len {g : Rig} (ok : g.ok) {ls : List Int} (h : asc g.n (-1) ls = true) : ls.length ≤ 24 := by
  have z := asc_len (by have := ok.n1; omega) h
  have := ok.n2
  omega
theorem asc_lt {m : Int} : ∀ {ls : List Int} {a : Int}, asc m a ls = true → ls.Pairwise (· < ·)
  | [], _, _ => .nil
  | p :: r, a, h => by
    simp only [asc, Bool.and_eq_true, decide_eq_true_eq] at h
    exact .cons (fun x hx => (asc_mem h.2.2 x hx).1) (asc_lt h.2.2)
theorem tupOf {m : Mi (List PyData)} {r r' : Rho} {xs : List Int} (h : m r = .ok (xs.map .int) r') : mBlt bTup (mCons (mOfF m) mNil) r = .ok (tupD xs) r' := by
  rw [e_blt, e_bind, e_cons, e_bind, e_ofF, e_bind, h]
  rfl
/-! ### cures -/
def pIn (c : List Int) : PyData → Bool
  | .int r => decide (r ∈ c)
  | _ => false
theorem filt (c : List Int) (L : List Int) : (((L.map PyData.int).filter (pIn c)).map id) = (L.filter fun r => decide (r ∈ c)).map PyData.int := by
  rw [List.map_id, List.filter_map]
  rfl
theorem cures_step {a b : Int} (I : Inv a b) (n q : Nat) (cs : List (List Int)) (x : Int) (s : Option Ent) (x0 : 0 ≤ x) (q1 : 1 ≤ q) (q2 : q ≤ 16) (hc : cs.length ≤ 24) :
    ∃ (a' b' : Int) (s' : Option Ent) (c : List Int), Inv a' b' ∧ asc q (-1) c = true ∧ l_law_cures_1 [some (.hot (src a b)), some (.val (.int n)), some (.val (.int q)), some (.hot (cs.map tupD)), some (.val (.int x)), s, none] = .nx [some (.hot (src a' b')), some (.val (.int n)), some (.val (.int q)), some (.hot ((cs ++ [c]).map tupD)), some (.val (.int x)), s', none] := by
  obtain ⟨t1, a1, b1, I1, u1, v1, e1⟩ := take_ok I (top := 4) (by decide) (by decide)
  have s1 : ∃ (a2 b2 L : Int), Inv a2 b2 ∧ sSetHot 5 (mIfL (mTst cGt (mCall f_law_take (aHot 0 (aVal (Mi.ret (.int 4)) (aNil)))) (Mi.ret (.int 0))) (mCons (mBin fMod (mBlt bInt (mCons (mVar 4) (mNil))) (mVar 2)) (mNil)) (mCons (mCall f_law_take (aHot 0 (aVal (mVar 2) (aNil)))) (mNil))) [some (.hot (src a b)), some (.val (.int n)), some (.val (.int q)), some (.hot (cs.map tupD)), some (.val (.int x)), s, none] = .nx [some (.hot (src a2 b2)), some (.val (.int n)), some (.val (.int q)), some (.hot (cs.map tupD)), some (.val (.int x)), some (.hot ([L].map .int)), none] := by
    by_cases h : 0 < t1
    · have m : fMod (.int x) (.int q) = some (.int (x.fmod q)) := fModI _ _ (by omega)
      exact ⟨a1, b1, x.fmod q, I1, by simp [e1, h, m]⟩
    · obtain ⟨t2, a2, b2, I2, u2, v2, e2⟩ := take_ok I1 (top := (q : Int)) (by omega) (by omega)
      exact ⟨a2, b2, t2, I2, by simp [e1, h, e2]⟩
  obtain ⟨a2, b2, L, I2, s1⟩ := s1
  obtain ⟨t3, a3, b3, I3, u3, v3, e3⟩ := take_ok I2 (top := 4) (by decide) (by decide)
  have s2 : ∃ (a4 b4 : Int) (M : List Int), Inv a4 b4 ∧ sIf (mTst cEq (mCall f_law_take (aHot 0 (aVal (Mi.ret (.int 4)) (aNil)))) (Mi.ret (.int 0))) (sApp 5 (mCall f_law_take (aHot 0 (aVal (mVar 2) (aNil))))) (fun r => .nx r) [some (.hot (src a2 b2)), some (.val (.int n)), some (.val (.int q)), some (.hot (cs.map tupD)), some (.val (.int x)), some (.hot ([L].map .int)), none] = .nx [some (.hot (src a4 b4)), some (.val (.int n)), some (.val (.int q)), some (.hot (cs.map tupD)), some (.val (.int x)), some (.hot (M.map .int)), none] := by
    by_cases h : t3 = 0
    · obtain ⟨t4, a4, b4, I4, u4, v4, e4⟩ := take_ok I3 (top := (q : Int)) (by omega) (by omega)
      have ap : sApp 5 (mCall f_law_take (aHot 0 (aVal (mVar 2) (aNil)))) [some (.hot (src a3 b3)), some (.val (.int n)), some (.val (.int q)), some (.hot (cs.map tupD)), some (.val (.int x)), some (.hot ([L].map .int)), none] = .nx [some (.hot (src a4 b4)), some (.val (.int n)), some (.val (.int q)), some (.hot (cs.map tupD)), some (.val (.int x)), some (.hot ([L, t4].map .int)), none] := by
        rw [sApp_ok (i := 5) (r' := [some (.hot (src a4 b4)), some (.val (.int n)), some (.val (.int q)), some (.hot (cs.map tupD)), some (.val (.int x)), some (.hot ([L].map .int)), none]) (d := .int t4) (xs := [L].map .int) (ys := [L].map .int) rfl (by simp [e4]) rfl (by simp)]
        rfl
      exact ⟨a4, b4, [L, t4], I4, by simp only [e_sif, e_sBind, e_tst, e_bind]; simp [e3, h]; simpa using ap⟩
    · exact ⟨a3, b3, [L], I3, by simp [e3, h]⟩
  obtain ⟨a4, b4, M, I4, s2⟩ := s2
  have hcc := comp_pure (v := 6) (t := t_law_cures_0) (m := e_law_cures_0) (mi := mRng rng1 (mCons (mVar 2) mNil)) (r := [some (.hot (src a4 b4)), some (.val (.int n)), some (.val (.int q)), some (.hot (cs.map tupD)), some (.val (.int x)), some (.hot (M.map .int)), none]) (r0 := [some (.hot (src a4 b4)), some (.val (.int n)), some (.val (.int q)), some (.hot (cs.map tupD)), some (.val (.int x)), some (.hot (M.map .int)), none])
    (ds := (rg q).map .int) (pIn M) id (rngE (q := q) (by simp) (by omega)) rfl (by simp [rg_len]; omega) (fun d hd => by
      obtain ⟨r, _, rfl⟩ := List.mem_map.mp hd
      exact ⟨by simp [t_law_cures_0, pIn], fun _ => by simp [e_law_cures_0]⟩)
  rw [filt] at hcc
  refine ⟨a4, b4, some (.hot (M.map .int)), (rg q).filter fun r => decide (r ∈ M), I4, asc_sub List.filter_sublist (asc_rg q (-1) (by decide)), ?_⟩
  unfold l_law_cures_1
  rw [seqNx s1, seqNx s2]
  rw [sApp_ok (i := 3) (r' := [some (.hot (src a4 b4)), some (.val (.int n)), some (.val (.int q)), some (.hot (cs.map tupD)), some (.val (.int x)), some (.hot (M.map .int)), none]) (d := tupD ((rg q).filter fun r => decide (r ∈ M))) (xs := cs.map tupD) (ys := cs.map tupD) rfl (tupOf hcc) rfl (by rw [List.length_map]; omega), List.map_append]
  rfl
theorem cures_ok {a b : Int} (I : Inv a b) (n q : Nat) (hn : n ≤ 24) (q1 : 1 ≤ q) (q2 : q ≤ 16) : ∃ (a' b' : Int) (cs : List (List Int)), Inv a' b' ∧ cs.length = n ∧ (∀ c ∈ cs, asc q (-1) c = true) ∧ f_law_cures [.hot (src a b), .val (.int n), .val (.int q)] = .rt (.cold (.tuple (cs.map tupD))) [.hot (src a' b')] := by
  obtain ⟨r', lp, a6, b6, cs, x, s, I6, hr, hlen, hasc⟩ := forL_inv (g := gNm 4) (b := l_law_cures_1)
    (fun k r => ∃ (a b : Int) (cs : List (List Int)) (x s : Option Ent), Inv a b ∧ r = [some (.hot (src a b)), some (.val (.int n)), some (.val (.int q)), some (.hot (cs.map tupD)), x, s, none] ∧ cs.length = min k n ∧ ∀ c ∈ cs, asc q (-1) c = true)
    ((rg n).map .int) 0 [some (.hot (src a b)), some (.val (.int n)), some (.val (.int q)), some (.hot []), none, none, none] ⟨a, b, [], none, none, I, rfl, by simp, fun c hc => by cases hc⟩
    (fun j d r hd ⟨a, b, cs, x, s, I, hr, hlen, hasc⟩ => by
      subst hr
      rw [List.getElem?_map] at hd
      obtain ⟨i, hi, rfl⟩ := Option.map_eq_some_iff.mp hd
      have hj : j < n := by
        have z := (List.getElem?_eq_some_iff.mp hi).1
        simpa [rg_len] using z
      have i0 := (rg_mem.mp (List.mem_of_getElem? hi)).1
      obtain ⟨a', b', s', c, I', hac, e⟩ := cures_step I n q cs i s i0 q1 q2 (by omega)
      refine ⟨_, _, rfl, e, a', b', cs ++ [c], _, s', I', rfl, by simp; omega, fun c' hc' => ?_⟩
      rcases List.mem_append.mp hc' with z | z
      · exact hasc c' z
      · rw [List.mem_singleton.mp z]
        exact hac)
  subst hr
  have hcn : cs.length = n := by
    rw [hlen]
    simp [rg_len]
  refine ⟨a6, b6, cs, I6, hcn, hasc, ?_⟩
  have hb : b_law_cures [some (.hot (src a b)), some (.val (.int n)), some (.val (.int q)), none, none, none, none] = .rt (.cold (.tuple (cs.map tupD))) [some (.hot (src a6 b6)), some (.val (.int n)), some (.val (.int q)), some (.val (.list (cs.map tupD))), x, s, none] := by
    unfold b_law_cures
    refine (seqNx (r1 := [some (.hot (src a b)), some (.val (.int n)), some (.val (.int q)), some (.hot []), none, none, none]) (by simp)).trans ?_
    refine (seqNx (forS (rngE (q := n) (by simp) (by omega)) lp)).trans ?_
    simp [bTup]
  unfold f_law_cures
  exact fnRt2 rfl rfl hb rfl
/-! ### signs -/
def pT : PyData → Bool := fun _ => true
theorem signs_step {a b : Int} (I : Inv a b) (n m : Nat) (cs : List (List Int)) (x : Int) (s5 s6 s7 : Option Ent) (n1 : 1 ≤ n) (n2 : n ≤ 24) (hc : cs.length ≤ 40) :
    ∃ (a' b' : Int) (s5' s6' s7' : Option Ent) (c : List Int), Inv a' b' ∧ sgnOk n c ∧ l_law_signs_2 [some (.hot (src a b)), some (.val (.int n)), some (.val (.int m)), some (.hot (cs.map tupD)), some (.val (.int x)), s5, s6, s7, none] = .nx [some (.hot (src a' b')), some (.val (.int n)), some (.val (.int m)), some (.hot ((cs ++ [c]).map tupD)), some (.val (.int x)), s5', s6', s7', none] := by
  obtain ⟨kd, a1, b1, I1, u1, v1, e1⟩ := take_ok I (top := 6) (by decide) (by decide)
  obtain ⟨od, a2, b2, I2, u2, v2, e2⟩ := take_ok I1 (top := (n : Int)) (by omega) (by omega)
  obtain ⟨lw, a3, b3, I3, u3, v3, e3⟩ := take_ok I2 (top := 3) (by decide) (by decide)
  let R : Int → Int → List (List Int) → Rho := fun a b cs => [some (.hot (src a b)), some (.val (.int n)), some (.val (.int m)), some (.hot (cs.map tupD)), some (.val (.int x)), some (.val (.int kd)), some (.val (.int od)), some (.val (.int lw)), none]
  have go : ∀ (mm : Mi PyData) (a' b' : Int) (c : List Int), mm (R a3 b3 cs) = .ok (tupD c) (R a' b' cs) → sApp 3 mm (R a3 b3 cs) = .nx (R a' b' (cs ++ [c])) := by
    intro mm a' b' c h
    rw [sApp_ok (i := 3) (r' := R a' b' cs) (d := tupD c) (xs := cs.map tupD) (ys := cs.map tupD) rfl h rfl (by rw [List.length_map]; omega)]
    simp [R]
  have fin : ∃ (a' b' : Int) (c : List Int), Inv a' b' ∧ sgnOk n c ∧ (sIf (tOrM (mTst cEq (mVar 5) (Mi.ret (.int 0))) (tAndM (mTst cEq (mVar 4) (Mi.ret (.int 0))) (mTst cLt (mVar 5) (Mi.ret (.int 4))))) (sApp 3 (mBin fMul (mTup (mCons (mVar 7) (mNil))) (mVar 1))) (sIf (mTst cLt (mVar 5) (Mi.ret (.int 4))) (sApp 3 (mBlt bTup (mCons (mOfF (mComp (mRng rng1 (mCons (mVar 1) (mNil))) (gNm 8) t_law_signs_0 e_law_signs_0 [8])) (mNil)))) (sApp 3 (mBlt bTup (mCons (mOfF (mComp (mRng rng1 (mCons (mVar 1) (mNil))) (gNm 8) t_law_signs_1 e_law_signs_1 [8])) (mNil)))))) (R a3 b3 cs) = .nx (R a' b' (cs ++ [c])) := by
    by_cases k1 : kd = 0 ∨ (x = 0 ∧ kd < 4)
    · have hz : fMul (.tuple [.int lw]) (.int n) = some (tupD (List.replicate n lw)) := by
        have z : fMul (.tuple [.int lw]) (.int (n : Int)) = some (.tuple (List.replicate (n : Int).toNat [PyData.int lw]).flatten) := if_pos ⟨by simp, by omega, by omega, by simp, by simp [isMv, pairD]⟩
        rw [z]
        simp [tupD]
      refine ⟨a3, b3, List.replicate n lw, I3, ⟨by simp, fun i hi => by rw [(List.mem_replicate.mp hi).2]; omega⟩, ?_⟩
      have g := go (mBin fMul (mTup (mCons (mVar 7) (mNil))) (mVar 1)) a3 b3 (List.replicate n lw) (by simp [R, hz])
      have hk : (decide (kd = 0) || (decide (x = 0) && decide (kd < 4))) = true := by simpa using k1
      rw [← g]
      rcases k1 with k1 | ⟨k1, k2⟩
      · simp [R, k1]
      · by_cases z : kd = 0 <;> simp [R, k1, k2, z]
    · have k0 : kd ≠ 0 := fun z => k1 (.inl z)
      have skip : ∀ u : Rho → Fl, ∀ s : Rho → Fl, sIf (tOrM (mTst cEq (mVar 5) (Mi.ret (.int 0))) (tAndM (mTst cEq (mVar 4) (Mi.ret (.int 0))) (mTst cLt (mVar 5) (Mi.ret (.int 4))))) s u (R a3 b3 cs) = u (R a3 b3 cs) := by
        intro u s
        by_cases z : x = 0
        · have z2 : ¬ kd < 4 := fun w => k1 (.inr ⟨z, w⟩)
          simp [R, k0, z, z2]
        · simp [R, k0, z]
      rw [skip]
      by_cases k4 : kd < 4
      · have hcc := comp_pure (v := 8) (t := t_law_signs_0) (m := e_law_signs_0) (mi := mRng rng1 (mCons (mVar 1) mNil)) (r := R a3 b3 cs) (r0 := R a3 b3 cs)
          (ds := (rg n).map .int) (fun _ => true) (fun d => match d with | .int i => .int (lw + if i = od then 1 else 0) | _ => .none) (rngE (q := n) (by simp [R]) (by omega)) rfl (by simp [rg_len]; omega) (fun d hd => by
            obtain ⟨r, _, rfl⟩ := List.mem_map.mp hd
            refine ⟨by simp [t_law_signs_0], fun _ => ?_⟩
            by_cases z : r = od <;> simp [R, e_law_signs_0, z])
        rw [List.filter_eq_self.mpr (fun _ _ => rfl), List.map_map] at hcc
        have e : ((rg n).map ((fun d => match d with | PyData.int i => PyData.int (lw + if i = od then 1 else 0) | _ => PyData.none) ∘ PyData.int)) = (((rg n).map fun i => lw + if i = od then 1 else 0)).map PyData.int := by
          rw [List.map_map]
          rfl
        rw [e] at hcc
        have g := go (mBlt bTup (mCons (mOfF (mComp (mRng rng1 (mCons (mVar 1) (mNil))) (gNm 8) t_law_signs_0 e_law_signs_0 [8])) (mNil))) a3 b3 ((rg n).map fun i => lw + if i = od then 1 else 0) (tupOf hcc)
        refine ⟨a3, b3, ((rg n).map fun i => lw + if i = od then 1 else 0), I3, ⟨by simp [rg_len], fun i hi => ?_⟩, ?_⟩
        rotate_left
        · rw [← g]
          simp [R, k4]
        · obtain ⟨y, _, rfl⟩ := List.mem_map.mp hi
          split <;> omega
      · obtain ⟨acc, r', e, a', b', ys, x', I', hr, hacc, hys, hlen⟩ := compL_inv (g := gNm 8) (t := t_law_signs_1) (m := e_law_signs_1) (vs := [8])
          (fun k acc r => ∃ (a b : Int) (ys : List Int) (x : Option Ent), Inv a b ∧ r = (R a b cs).set 8 x ∧ acc = ys.map PyData.int ∧ (∀ i ∈ ys, 0 ≤ i ∧ i ≤ 9) ∧ ys.length = k) ((rg n).map .int) [] 0 (R a3 b3 cs)
          ⟨a3, b3, [], none, I3, rfl, rfl, (fun i hi => by cases hi), rfl⟩ (by simp [rg_len]; omega) (fun j d acc r hd ⟨a, b, ys, x', I, hr, hacc, hys, hlen⟩ => by
            subst hr
            subst hacc
            obtain ⟨t, a', b', I', t0, t1, e⟩ := take_ok I (top := kd - 2) (by omega) (by omega)
            refine ⟨_, (R a b cs).set 8 (some (.val d)), rfl, .inr ⟨.int (lw + t), (R a' b' cs).set 8 (some (.val d)), by simp [t_law_signs_1, R, wipeR], by simp [R, e_law_signs_1, e, wipeR], a', b', ys ++ [lw + t], some (.val d), I', rfl, by simp, fun i hi => ?_, by simp [hlen]⟩⟩
            rcases List.mem_append.mp hi with z | z
            · exact hys i z
            · rw [List.mem_singleton.mp z]
              omega)
        subst hr
        subst hacc
        have hcc : mComp (mRng rng1 (mCons (mVar 1) (mNil))) (gNm 8) t_law_signs_1 e_law_signs_1 [8] (R a3 b3 cs) = .ok (ys.map .int) (R a' b' cs) := by
          rw [mCompOf (rngE (q := n) (by simp [R]) (by omega)) e]
          simp [R]
        have g := go (mBlt bTup (mCons (mOfF (mComp (mRng rng1 (mCons (mVar 1) (mNil))) (gNm 8) t_law_signs_1 e_law_signs_1 [8])) (mNil))) a' b' ys (tupOf hcc)
        refine ⟨a', b', ys, I', ⟨by rw [hlen]; simp [rg_len], hys⟩, ?_⟩
        rw [← g]
        simp [R, k4]
  obtain ⟨a', b', c, I', hs, fin⟩ := fin
  refine ⟨a', b', some (.val (.int kd)), some (.val (.int od)), some (.val (.int lw)), c, I', hs, ?_⟩
  unfold l_law_signs_2
  refine (seqNx (r1 := [some (.hot (src a1 b1)), some (.val (.int n)), some (.val (.int m)), some (.hot (cs.map tupD)), some (.val (.int x)), some (.val (.int kd)), s6, s7, none]) (by simp [e1])).trans ?_
  refine (seqNx (r1 := R a3 b3 cs) (by simp [e2, e3, gTp, gCn, gN0, R])).trans ?_
  exact fin
theorem signs_ok {a b : Int} (I : Inv a b) (n m : Nat) (n1 : 1 ≤ n) (n2 : n ≤ 24) (hm : m ≤ 40) : ∃ (a' b' : Int) (cs : List (List Int)), Inv a' b' ∧ cs.length = m ∧ (∀ c ∈ cs, sgnOk n c) ∧ f_law_signs [.hot (src a b), .val (.int n), .val (.int m)] = .rt (.cold (.tuple (cs.map tupD))) [.hot (src a' b')] := by
  obtain ⟨r', lp, a6, b6, cs, x, s5, s6, s7, I6, hr, hlen, hasc⟩ := forL_inv (g := gNm 4) (b := l_law_signs_2)
    (fun k r => ∃ (a b : Int) (cs : List (List Int)) (x s5 s6 s7 : Option Ent), Inv a b ∧ r = [some (.hot (src a b)), some (.val (.int n)), some (.val (.int m)), some (.hot (cs.map tupD)), x, s5, s6, s7, none] ∧ cs.length = min k m ∧ ∀ c ∈ cs, sgnOk n c)
    ((rg m).map .int) 0 [some (.hot (src a b)), some (.val (.int n)), some (.val (.int m)), some (.hot []), none, none, none, none, none] ⟨a, b, [], none, none, none, none, I, rfl, by simp, fun c hc => by cases hc⟩
    (fun j d r hd ⟨a, b, cs, x, s5, s6, s7, I, hr, hlen, hasc⟩ => by
      subst hr
      rw [List.getElem?_map] at hd
      obtain ⟨i, hi, rfl⟩ := Option.map_eq_some_iff.mp hd
      have hj : j < m := by
        have z := (List.getElem?_eq_some_iff.mp hi).1
        simpa [rg_len] using z
      obtain ⟨a', b', s5', s6', s7', c, I', hac, e⟩ := signs_step I n m cs i s5 s6 s7 n1 n2 (by omega)
      refine ⟨_, _, rfl, e, a', b', cs ++ [c], _, s5', s6', s7', I', rfl, by simp; omega, fun c' hc' => ?_⟩
      rcases List.mem_append.mp hc' with z | z
      · exact hasc c' z
      · rw [List.mem_singleton.mp z]
        exact hac)
  subst hr
  have hcn : cs.length = m := by
    rw [hlen]
    simp [rg_len]
  refine ⟨a6, b6, cs, I6, hcn, hasc, ?_⟩
  have hb : b_law_signs [some (.hot (src a b)), some (.val (.int n)), some (.val (.int m)), none, none, none, none, none, none] = .rt (.cold (.tuple (cs.map tupD))) [some (.hot (src a6 b6)), some (.val (.int n)), some (.val (.int m)), some (.val (.list (cs.map tupD))), x, s5, s6, s7, none] := by
    unfold b_law_signs
    refine (seqNx (r1 := [some (.hot (src a b)), some (.val (.int n)), some (.val (.int m)), some (.hot []), none, none, none, none, none]) (by simp)).trans ?_
    refine (seqNx (forS (rngE (q := m) (by simp) (by omega)) lp)).trans ?_
    simp [bTup]
  unfold f_law_signs
  exact fnRt2 rfl rfl hb rfl
end Sh
set_option maxHeartbeats 1000000
namespace Sh
open PySem PySem.Spec Dn L2
/-! ### moves -/
theorem tupsMap : ∀ ms : List (List Int), (∀ p ∈ ms, p ≠ []) → tupsOf (ms.map tupD) = some ms
  | [], _ => rfl
  | p :: ms, h => by
    have hp := h p List.mem_cons_self
    have ih := tupsMap ms fun x hx => h x (List.mem_cons_of_mem _ hx)
    cases p with
    | nil => exact absurd rfl hp
    | cons a r =>
      show (match intsOf ((a :: r).map .int) with
        | some (n :: ns) => (tupsOf (ms.map tupD)).map ((n :: ns) :: ·)
        | _ => none) = _
      rw [intsMap, ih]
      rfl
theorem sortTs (ms : List (List Int)) (h : ∀ p ∈ ms, p ≠ []) : bSort [.list (ms.map tupD)] = some (.list ((srtT ms).map tupD)) := by
  cases ms with
  | nil => simp [bSort, srtT, srtI, intsOf]
  | cons p r =>
    have e := tupsMap (p :: r) h
    have z : intsOf ((p :: r).map tupD) = none := rfl
    simp only [bSort, z, e]
    rfl
theorem srtT_lt {ms : List (List Int)} (h : ms.Nodup) : (srtT ms).Pairwise fun a b => HT.lexLt a b = true := by
  have n : (srtT ms).Nodup := (srtT_perm ms).nodup_iff.mpr h
  have p := (srtT_le ms).and n
  refine p.imp fun {a b} z => ?_
  obtain ⟨z1, z2⟩ := z
  cases e : HT.lexLt a b with
  | true => rfl
  | false => exact absurd (SrtO.lexLt_conn e z1) z2
theorem rng2_ok (m : Nat) (h : m ≤ 1000) (h1 : 1 ≤ m) : rng2 [.int 1, .int m] = some (((List.range (m - 1)).map fun (i : Nat) => ((1 + i : Nat) : Int)).map .int) := by
  simp only [rng2]
  rw [if_pos (by omega)]
  unfold ranged
  rw [List.map_map]
  have e : ((m : Int) - 1).toNat = m - 1 := by omega
  rw [e]
  congr 1
theorem jm_step0 {a b : Int} (I : Inv a b) (m : Nat) (ms : List (List Int)) (h : Int) (x4 : Option Ent) (h1 : 1 ≤ h) (hm : h < m) (m40 : m ≤ 40) (hl : ms.length ≤ 100)
    (hms : ∀ p ∈ ms, ∃ u v : Int, p = [u, v] ∧ 0 ≤ u ∧ u < v ∧ v < h) (nd : ms.Nodup) :
    ∃ (a' b' : Int) (x4' : Option Ent) (ms' : List (List Int)), Inv a' b' ∧ (∀ p ∈ ms', ∃ u v : Int, p = [u, v] ∧ 0 ≤ u ∧ u < v ∧ v < h + 1) ∧ ms'.Nodup ∧ ms'.length ≤ ms.length + 1 ∧
      l_law_joined_moves_0 [some (.hot (src a b)), some (.val (.int m)), some (.hot (ms.map tupD)), some (.val (.int h)), x4, none] = .nx [some (.hot (src a' b')), some (.val (.int m)), some (.hot (ms'.map tupD)), some (.val (.int h)), x4', none] := by
  obtain ⟨g, a1, b1, I1, u1, v1, e1⟩ := take_ok I (top := h) (by omega) (by omega)
  obtain ⟨t, a2, b2, I2, u2, v2, e2⟩ := take_ok I1 (top := 9) (by decide) (by decide)
  have up : ∀ p ∈ ms, ∃ u v : Int, p = [u, v] ∧ 0 ≤ u ∧ u < v ∧ v < h + 1 := fun p hp => by
    obtain ⟨u, v, e, z⟩ := hms p hp
    exact ⟨u, v, e, by omega⟩
  by_cases ht : 0 < t
  · have ap : sApp 2 (mTup (mCons (mVar 4) (mCons (mVar 3) (mNil)))) [some (.hot (src a2 b2)), some (.val (.int m)), some (.hot (ms.map tupD)), some (.val (.int h)), some (.val (.int g)), none] = .nx [some (.hot (src a2 b2)), some (.val (.int m)), some (.hot ((ms ++ [[g, h]]).map tupD)), some (.val (.int h)), some (.val (.int g)), none] := by
      rw [sApp_ok (i := 2) (r' := [some (.hot (src a2 b2)), some (.val (.int m)), some (.hot (ms.map tupD)), some (.val (.int h)), some (.val (.int g)), none]) (d := tupD [g, h]) (xs := ms.map tupD) (ys := ms.map tupD) rfl (by simp [tupD]) rfl (by rw [List.length_map]; omega), List.map_append]
      rfl
    refine ⟨a2, b2, some (.val (.int g)), ms ++ [[g, h]], I2, fun p hp => ?_, ?_, by simp, ?_⟩
    · rcases List.mem_append.mp hp with z | z
      · exact up p z
      · rw [List.mem_singleton.mp z]
        exact ⟨g, h, rfl, by omega⟩
    · rw [List.nodup_append]
      refine ⟨nd, by simp, fun p hp q hq => ?_⟩
      rw [List.mem_singleton.mp hq]
      obtain ⟨u, v, rfl, z⟩ := hms p hp
      intro w
      cases w
      omega
    · unfold l_law_joined_moves_0
      refine (seqNx (r1 := [some (.hot (src a1 b1)), some (.val (.int m)), some (.hot (ms.map tupD)), some (.val (.int h)), some (.val (.int g)), none]) (by simp [e1])).trans ?_
      rw [← ap]
      simp [e2, ht]
  · refine ⟨a2, b2, some (.val (.int g)), ms, I2, up, nd, by omega, ?_⟩
    unfold l_law_joined_moves_0
    refine (seqNx (r1 := [some (.hot (src a1 b1)), some (.val (.int m)), some (.hot (ms.map tupD)), some (.val (.int h)), some (.val (.int g)), none]) (by simp [e1])).trans ?_
    simp [e2, ht]
theorem jm_step1 {a b : Int} (I : Inv a b) (m : Nat) (ms : List (List Int)) (x3 x4 : Option Ent) (d : PyData) (h1 : 1 ≤ m) (m40 : m ≤ 40) (hl : ms.length ≤ 100)
    (hms : ∀ p ∈ ms, mvOk m p) (nd : ms.Nodup) :
    ∃ (a' b' : Int) (x3' x4' : Option Ent) (ms' : List (List Int)), Inv a' b' ∧ (∀ p ∈ ms', mvOk m p) ∧ ms'.Nodup ∧ ms'.length ≤ ms.length + 1 ∧
      l_law_joined_moves_1 [some (.hot (src a b)), some (.val (.int m)), some (.hot (ms.map tupD)), x3, x4, some (.val d)] = .nx [some (.hot (src a' b')), some (.val (.int m)), some (.hot (ms'.map tupD)), x3', x4', some (.val d)] := by
  obtain ⟨g, a1, b1, I1, u1, v1, e1⟩ := take_ok I (top := (m : Int)) (by omega) (by omega)
  obtain ⟨h, a2, b2, I2, u2, v2, e2⟩ := take_ok I1 (top := (m : Int)) (by omega) (by omega)
  let R : List (List Int) → Rho := fun ms => [some (.hot (src a2 b2)), some (.val (.int m)), some (.hot (ms.map tupD)), some (.val (.int h)), some (.val (.int g)), some (.val d)]
  have s1 : sPar 4 3 (mCons (mCall f_law_take (aHot 0 (aVal (mVar 1) (aNil)))) (mCons (mCall f_law_take (aHot 0 (aVal (mVar 1) (aNil)))) (mNil))) [some (.hot (src a b)), some (.val (.int m)), some (.hot (ms.map tupD)), x3, x4, some (.val d)] = .nx (R ms) := by
    simp [e1, e2, R]
  let lo : Int := if h < g then h else g
  let hi : Int := if h > g then h else g
  have elo : ∀ ms, mBlt bMin (mCons (mVar 4) (mCons (mVar 3) (mNil))) (R ms) = .ok (.int lo) (R ms) := by intro ms; simp [R, lo]
  have ehi : ∀ ms, mBlt bMax (mCons (mVar 4) (mCons (mVar 3) (mNil))) (R ms) = .ok (.int hi) (R ms) := by intro ms; simp [R, hi]
  have ep : ∀ ms, mTup (mCons (mBlt bMin (mCons (mVar 4) (mCons (mVar 3) (mNil)))) (mCons (mBlt bMax (mCons (mVar 4) (mCons (mVar 3) (mNil)))) (mNil))) (R ms) = .ok (tupD [lo, hi]) (R ms) := by
    intro ms
    rw [e_tup, e_bind, e_cons, e_bind, elo]
    simp only [e_bind, e_cons]
    rw [ehi]
    rfl
  have eIn : mTstR cNotIn (mTup (mCons (mBlt bMin (mCons (mVar 4) (mCons (mVar 3) (mNil)))) (mCons (mBlt bMax (mCons (mVar 4) (mCons (mVar 3) (mNil)))) (mNil)))) 2 (R ms) = .ok (!decide ([lo, hi] ∈ ms)) (R ms) := by
    rw [e_tstR, e_bind, ep]
    simp [R]
  have ap : sApp 2 (mTup (mCons (mBlt bMin (mCons (mVar 4) (mCons (mVar 3) (mNil)))) (mCons (mBlt bMax (mCons (mVar 4) (mCons (mVar 3) (mNil)))) (mNil)))) (R ms) = .nx (R (ms ++ [[lo, hi]])) := by
    rw [sApp_ok (i := 2) (r' := R ms) (d := tupD [lo, hi]) (xs := ms.map tupD) (ys := ms.map tupD) rfl (ep ms) rfl (by rw [List.length_map]; omega)]
    simp [R]
  have eNe : mTst cNe (mVar 4) (mVar 3) (R ms) = .ok (!decide (g = h)) (R ms) := by simp [R]
  by_cases hz : g = h
  · refine ⟨a2, b2, some (.val (.int h)), some (.val (.int g)), ms, I2, hms, nd, by omega, ?_⟩
    unfold l_law_joined_moves_1
    refine (seqNx s1).trans ?_
    rw [e_sif, e_sBind, e_tand, e_bind, eNe]
    simp [hz, R]
  · by_cases hin : [lo, hi] ∈ ms
    · refine ⟨a2, b2, some (.val (.int h)), some (.val (.int g)), ms, I2, hms, nd, by omega, ?_⟩
      unfold l_law_joined_moves_1
      refine (seqNx s1).trans ?_
      rw [e_sif, e_sBind, e_tand, e_bind, eNe]
      simp only [hz, decide_false, Bool.not_false, if_true]
      rw [eIn]
      simp [hin, R]
    · refine ⟨a2, b2, some (.val (.int h)), some (.val (.int g)), ms ++ [[lo, hi]], I2, fun p hp => ?_, ?_, by simp, ?_⟩
      rotate_left
      · rw [List.nodup_append]
        refine ⟨nd, by simp, fun p hp q hq => ?_⟩
        rw [List.mem_singleton.mp hq]
        exact fun w => hin (w ▸ hp)
      rotate_left
      · rcases List.mem_append.mp hp with z | z
        · exact hms p z
        · rw [List.mem_singleton.mp z]
          refine ⟨lo, hi, rfl, ?_⟩
          simp only [lo, hi]
          split <;> split <;> omega
      · unfold l_law_joined_moves_1
        refine (seqNx s1).trans ?_
        rw [e_sif, e_sBind, e_tand, e_bind, eNe]
        simp only [hz, decide_false, Bool.not_false, if_true]
        rw [eIn]
        simp only [hin, decide_false, Bool.not_false, if_true]
        exact ap
theorem moves_ok {a b : Int} (I : Inv a b) (m : Nat) (h1 : 1 ≤ m) (m40 : m ≤ 40) : ∃ (a' b' : Int) (ms : List (List Int)), Inv a' b' ∧ ms.length ≤ 80 ∧ (∀ p ∈ ms, mvOk m p) ∧ (ms.Pairwise fun a b => HT.lexLt a b = true) ∧ f_law_joined_moves [.hot (src a b), .val (.int m)] = .rt (.cold (.tuple (ms.map tupD))) [.hot (src a' b')] := by
  obtain ⟨r', lp, a1, b1, ms, x3, x4, I1, hr, hin, nd, hlen⟩ := forL_inv (g := gNm 3) (b := l_law_joined_moves_0)
    (fun k r => ∃ (a b : Int) (ms : List (List Int)) (x3 x4 : Option Ent), Inv a b ∧ r = [some (.hot (src a b)), some (.val (.int m)), some (.hot (ms.map tupD)), x3, x4, none] ∧ (∀ p ∈ ms, ∃ u v : Int, p = [u, v] ∧ 0 ≤ u ∧ u < v ∧ v < ((1 + k : Nat) : Int)) ∧ ms.Nodup ∧ ms.length ≤ k)
    (((List.range (m - 1)).map fun (i : Nat) => ((1 + i : Nat) : Int)).map .int) 0 [some (.hot (src a b)), some (.val (.int m)), some (.hot []), none, none, none] ⟨a, b, [], none, none, I, rfl, (fun c hc => by cases hc), .nil, Nat.le_refl _⟩
    (fun j d r hd ⟨a, b, ms, x3, x4, I, hr, hin, nd, hlen⟩ => by
      subst hr
      rw [List.map_map, List.getElem?_map] at hd
      obtain ⟨i, hi, rfl⟩ := Option.map_eq_some_iff.mp hd
      obtain ⟨hj, hi⟩ := List.getElem?_eq_some_iff.mp hi
      rw [List.length_range] at hj
      rw [List.getElem_range] at hi
      subst hi
      obtain ⟨a', b', x4', ms', I', hin', nd', hl', e⟩ := jm_step0 I m ms ((1 + j : Nat) : Int) x4 (by omega) (by omega) m40 (by omega) (fun p hp => by
        obtain ⟨u, v, e, z⟩ := hin p hp
        exact ⟨u, v, e, by omega⟩) nd
      refine ⟨_, _, rfl, e, a', b', ms', _, x4', I', rfl, fun p hp => ?_, nd', by omega⟩
      obtain ⟨u, v, e, z⟩ := hin' p hp
      exact ⟨u, v, e, by omega⟩)
  subst hr
  have hmv : ∀ p ∈ ms, mvOk m p := fun p hp => by
    obtain ⟨u, v, e, z⟩ := hin p hp
    rw [List.length_map, List.length_map, List.length_range] at z
    exact ⟨u, v, e, by omega⟩
  have hl1 : ms.length ≤ 39 := by
    simp at hlen
    omega
  obtain ⟨t, a2, b2, I2, u2, v2, e2⟩ := take_ok I1 (top := (m : Int)) (by omega) (by omega)
  obtain ⟨tn, rfl⟩ : ∃ tn : Nat, t = tn := ⟨t.toNat, by omega⟩
  obtain ⟨r', lp2, a3, b3, ms2, x3', x4', x5', I3, hr, hin2, nd2, hlen2⟩ := forL_inv (g := gNm 5) (b := l_law_joined_moves_1)
    (fun k r => ∃ (a b : Int) (ms : List (List Int)) (x3 x4 x5 : Option Ent), Inv a b ∧ r = [some (.hot (src a b)), some (.val (.int m)), some (.hot (ms.map tupD)), x3, x4, x5] ∧ (∀ p ∈ ms, mvOk m p) ∧ ms.Nodup ∧ ms.length ≤ 39 + k)
    ((rg tn).map .int) 0 [some (.hot (src a2 b2)), some (.val (.int m)), some (.hot (ms.map tupD)), x3, x4, none] ⟨a2, b2, ms, x3, x4, none, I2, rfl, hmv, nd, hl1⟩
    (fun j d r hd ⟨a, b, ms, x3, x4, x5, I, hr, hin, nd, hlen⟩ => by
      subst hr
      have hj : j < tn := by
        have z := (List.getElem?_eq_some_iff.mp hd).1
        simpa [rg_len] using z
      obtain ⟨a', b', x3', x4', ms', I', hin', nd', hl', e⟩ := jm_step1 I m ms x3 x4 d h1 m40 (by omega) hin nd
      exact ⟨_, _, rfl, e, a', b', ms', x3', x4', _, I', rfl, hin', nd', by omega⟩)
  subst hr
  have hne : ∀ p ∈ ms2, p ≠ [] := fun p hp => by
    obtain ⟨u, v, e, _⟩ := hin2 p hp
    rw [e]
    simp
  have hst := sortTs ms2 hne
  refine ⟨a3, b3, srtT ms2, I3, ?_, fun p hp => hin2 p ((srtT_perm ms2).mem_iff.mp hp), srtT_lt nd2, ?_⟩
  · rw [(srtT_perm ms2).length_eq]
    simp [rg_len] at hlen2
    omega
  have hb : b_law_joined_moves [some (.hot (src a b)), some (.val (.int m)), none, none, none, none] = .rt (.cold (.tuple ((srtT ms2).map tupD))) [some (.hot (src a3 b3)), some (.val (.int m)), some (.val (.list (ms2.map tupD))), x3', x4', x5'] := by
    unfold b_law_joined_moves
    refine (seqNx (r1 := [some (.hot (src a b)), some (.val (.int m)), some (.hot []), none, none, none]) (by simp)).trans ?_
    refine (seqNx (forS (by simp [rng2_ok m (by omega) h1]) lp)).trans ?_
    refine (seqNx (forS (rngE2 (q := tn) (r1 := [some (.hot (src a2 b2)), some (.val (.int m)), some (.hot (ms.map tupD)), x3, x4, none]) (by simp [e2]) (by omega)) lp2)).trans ?_
    simp [bTup, hst]
  unfold f_law_joined_moves
  exact fnRt2 rfl rfl hb rfl
/-! ### rigs that are drawn -/
theorem rig_ok {a b : Int} (I : Inv a b) (F S : Int) (f1 : 2 ≤ F) (f2 : F ≤ 24) (s1 : 2 ≤ S) (s2 : S ≤ 40) : ∃ (a' b' : Int) (g : Rig), Inv a' b' ∧ Rig.ok g ∧ 2 ≤ g.n ∧ (g.n : Int) ≤ F ∧ 2 ≤ g.signs.length ∧ (g.signs.length : Int) ≤ S ∧ f_law_rig [.hot (src a b), .val (.int F), .val (.int S)] = .rt (.cold g.d) [.hot (src a' b')] := by
  obtain ⟨t1, a1, b1, I1, u1, v1, e1⟩ := take_ok I (top := F - 1) (by omega) (by omega)
  obtain ⟨t2, a2, b2, I2, u2, v2, e2⟩ := take_ok I1 (top := S - 1) (by omega) (by omega)
  obtain ⟨n, hn⟩ : ∃ n : Nat, 2 + t1 = n := ⟨(2 + t1).toNat, by omega⟩
  obtain ⟨m, hm⟩ : ∃ n : Nat, 2 + t2 = n := ⟨(2 + t2).toNat, by omega⟩
  have h14 : ∃ z : Int, (if (if (n : Int) - 1 < 14 then (n : Int) - 1 else 14) > 1 then (if (n : Int) - 1 < 14 then (n : Int) - 1 else 14) else 1) = z ∧ 1 ≤ z ∧ z ≤ 14 := ⟨_, rfl, by split <;> split <;> omega, by split <;> split <;> omega⟩
  obtain ⟨z, hz, z1, z2⟩ := h14
  obtain ⟨t3, a3, b3, I3, u3, v3, e3⟩ := take_ok I2 (top := z) (by omega) (by omega)
  obtain ⟨q, hq⟩ : ∃ n : Nat, 2 + t3 = n := ⟨(2 + t3).toNat, by omega⟩
  obtain ⟨a4, b4, cs, I4, c1, c2, e4⟩ := cures_ok I3 n q (by omega) (by omega) (by omega)
  obtain ⟨a5, b5, ss, I5, d1, d2, e5⟩ := signs_ok I4 n m (by omega) (by omega) (by omega)
  obtain ⟨a6, b6, ms, I6, w1, w2, w3, e6⟩ := moves_ok I5 m (by omega) (by omega)
  refine ⟨a6, b6, ⟨n, q, cs, ss, ms⟩, I6, ⟨?_, ?_, ?_, ?_, c1, c2, ?_, ?_, d2, ?_, ?_, w3⟩, ?_, ?_, ?_, ?_, ?_⟩
  · show 1 ≤ n; omega
  · show n ≤ 24; omega
  · show 1 ≤ q; omega
  · show q ≤ 16; omega
  · show 1 ≤ ss.length; omega
  · show ss.length ≤ 40; omega
  · show ms.length ≤ 200; omega
  · show ∀ p ∈ ms, mvOk ss.length p
    rw [d1]
    exact w2
  · show 2 ≤ n; omega
  · show (n : Int) ≤ F; omega
  · show 2 ≤ ss.length; omega
  · show (ss.length : Int) ≤ S; omega
  have hb : b_law_rig [some (.hot (src a b)), some (.val (.int F)), some (.val (.int S)), none, none, none] = .rt (.cold (Rig.d ⟨n, q, cs, ss, ms⟩)) [some (.hot (src a6 b6)), some (.val (.int F)), some (.val (.int S)), some (.val (.int n)), some (.val (.int m)), some (.val (.int q))] := by
    unfold b_law_rig
    refine (seqNx (r1 := [some (.hot (src a2 b2)), some (.val (.int F)), some (.val (.int S)), some (.val (.int n)), some (.val (.int m)), none]) (by simp [e1, e2, hn, hm])).trans ?_
    refine (seqNx (r1 := [some (.hot (src a3 b3)), some (.val (.int F)), some (.val (.int S)), some (.val (.int n)), some (.val (.int m)), some (.val (.int q))]) ?_).trans ?_
    · have hz' : (if 1 < (if (n : Int) - 1 < 14 then (n : Int) - 1 else 14) then (if (n : Int) - 1 < 14 then (n : Int) - 1 else 14) else 1) = z := hz
      simp [hz', e3, hq]
    simp [e4, e5, e6, Rig.d, Rig.cd, Rig.sd, Rig.md]
  unfold f_law_rig
  exact fnRt2 rfl rfl hb rfl
end Sh
set_option maxHeartbeats 1000000
namespace Sh
open PySem PySem.Spec Dn L2
theorem mulK (x : Int) {k : Nat} (h : k ≤ 62) : fMul (.int x) (.int k) = some (.int (x * k)) := fMulR _ _ ⟨by omega, by omega⟩
theorem cell_ok (ns : List Int) (k : Nat) : ∃ c : Int, sSeq (sSet 2 (Mi.ret (.int 0))) (sIf (mTst cLt (mVar 1) (mLenV 0)) (sSet 2 (mIxV 0 (mVar 1))) (sIf (mTst cNe (mVar 0) (mLst (mNil))) (sSet 2 (mIxV 0 (Mi.ret (.int 0)))) (fun r => .nx r))) [some (.val (intsD ns)), some (.val (.int k)), none, none, none] = .nx [some (.val (intsD ns)), some (.val (.int k)), some (.val (.int c)), none, none] := by
  by_cases h : k < ns.length
  · have e : (ns.map PyData.int)[k]? = some (.int ns[k]) := by simp [h]
    have z := atI_nat e
    have z' : fIx (.list (ns.map .int)) (.int k) = some (.int ns[k]) := z
    exact ⟨ns[k], by simp [intsD, h, z']⟩
  · cases ns with
    | nil =>
      have ne : cNe (.list []) (.list []) = some false := by decide +kernel
      exact ⟨0, by simp [intsD, ne]; omega⟩
    | cons c r =>
      have ne : cNe (.list ((c :: r).map .int)) (.list []) = some true := cNeLi (c :: r) []
      refine ⟨c, ?_⟩
      have h' : ¬ (k : Int) < (r.length : Int) + 1 := by simp at h; omega
      simp only [List.map_cons] at ne
      simp [intsD, h', ne]
theorem seqAs (s t u : Rho → Fl) (r : Rho) : sSeq s (sSeq t u) r = sSeq (sSeq s t) u r := by
  simp only [e_sSeq]
  cases s r <;> rfl
def mixK (big : Int) (k : Nat) : Int := ((big.fmod 2147483629 + 7919 * k * k + 31 * k + 17) * 48271).fmod 2147483647
theorem mixK0 (big : Int) (k : Nat) : 0 ≤ mixK big k := Int.fmod_nonneg_of_pos _ (by decide)
theorem mixK1 (big : Int) (k : Nat) : mixK big k < 2147483647 := Int.fmod_lt_of_pos _ (by decide)
theorem pool_mixG (D : PyData) (big kk A B C E F G : Int) (c r4 : Option Ent) (hA : fMod (.int big) (.int 2147483629) = some (.int A)) (hB : fMul (.int 7919) (.int kk) = some (.int B)) (hC : fMul (.int B) (.int kk) = some (.int C)) (hE : fMul (.int 31) (.int kk) = some (.int E)) (hF : fMul (.int (A + C + E + 17)) (.int 48271) = some (.int F)) (hG : fMod (.int F) (.int 2147483647) = some (.int G)) :
    sSet 4 (mBin fMod (mBlt bInt (mCons (mBin fMul (mBin fAdd (mBin fAdd (mBin fAdd (mBin fMod (mBlt bInt (mCons (mVar 3) (mNil))) (Mi.ret (.int 2147483629))) (mBin fMul (mBin fMul (Mi.ret (.int 7919)) (mVar 1)) (mVar 1))) (mBin fMul (Mi.ret (.int 31)) (mVar 1))) (Mi.ret (.int 17))) (Mi.ret (.int 48271))) (mNil))) (Mi.ret (.int 2147483647))) [some (.val D), some (.val (.int kk)), c, some (.val (.int big)), r4] = .nx [some (.val D), some (.val (.int kk)), c, some (.val (.int big)), some (.val (.int G))] := by
  simp [hA, hB, hC, hE, hF, hG]
theorem pool_mix (D : PyData) (big : Int) (k : Nat) (hk : k ≤ 62) (c : Option Ent) (r4 : Option Ent) : sSet 4 (mBin fMod (mBlt bInt (mCons (mBin fMul (mBin fAdd (mBin fAdd (mBin fAdd (mBin fMod (mBlt bInt (mCons (mVar 3) (mNil))) (Mi.ret (.int 2147483629))) (mBin fMul (mBin fMul (Mi.ret (.int 7919)) (mVar 1)) (mVar 1))) (mBin fMul (Mi.ret (.int 31)) (mVar 1))) (Mi.ret (.int 17))) (Mi.ret (.int 48271))) (mNil))) (Mi.ret (.int 2147483647))) [some (.val D), some (.val (.int k)), c, some (.val (.int big)), r4] = .nx [some (.val D), some (.val (.int k)), c, some (.val (.int big)), some (.val (.int (mixK big k)))] :=
  pool_mixG D big k _ _ _ _ _ _ c r4 (modN big) (mulK _ hk) (mulK _ hk) (mulK _ hk) (mulB _) (modM _)
theorem pool_big (D : PyData) (c : Int) (k : Nat) : ∃ big : Int, 0 ≤ big ∧ sSet 3 (mBlt bMax (mCons (mBlt bInt (mCons (mVar 2) (mNil))) (mCons (mBlt bInt (mCons (mBin fSub (mNeg (Mi.ret (.int 1))) (mVar 2)) (mNil))) (mNil)))) [some (.val D), some (.val (.int k)), some (.val (.int c)), none, none] = .nx [some (.val D), some (.val (.int k)), some (.val (.int c)), some (.val (.int big)), none] :=
  ⟨if -1 - c > c then -1 - c else c, by split <;> omega, by simp⟩
theorem pool_end (ns : List Int) (c : Option Ent) (big x : Int) (k : Nat) (hb : 0 ≤ big) : ∃ y : Int, 0 ≤ y ∧ sRetF (mCons (mBin fMul (mVar 3) (mBlt bInt (mCons (mAnd (mBin (fB cGe) (mVar 3) (mBin fPow (Mi.ret (.int 10)) (Mi.ret (.int 18)))) (mBin (fB cLt) (mVar 1) (mLenV 0))) (mNil)))) (mCons (mVar 4) (mNil))) [some (.val (intsD ns)), some (.val (.int k)), c, some (.val (.int big)), some (.val (.int x))] = .rt (.fresh (src y x)) [some (.val (intsD ns)), some (.val (.int k)), c, some (.val (.int big)), some (.val (.int x))] := by
  by_cases hg : 1000000000000000000 ≤ big
  · by_cases hl : k < ns.length
    · exact ⟨big * 1, by omega, by simp [intsD, mul1, pow18, hg, hl]⟩
    · exact ⟨big * 0, by omega, by simp [intsD, mul0, pow18, hg, hl]⟩
  · exact ⟨big * 0, by omega, by simp [intsD, mul0, pow18, hg]⟩
theorem pool_ok (ns : List Int) (k : Nat) (hk : k ≤ 62) : ∃ a b, Inv a b ∧ f_law_pool [.val (intsD ns), .val (.int k)] = .rt (.fresh (src a b)) [] := by
  obtain ⟨c, hc⟩ := cell_ok ns k
  obtain ⟨big, hb, h3⟩ := pool_big (intsD ns) c k
  have h4 := pool_mix (intsD ns) big k hk (some (.val (.int c))) none
  obtain ⟨y, hy, h5⟩ := pool_end ns (some (.val (.int c))) big (mixK big k) k hb
  have hbody : b_law_pool [some (.val (intsD ns)), some (.val (.int k)), none, none, none] = .rt (.fresh (src y (mixK big k))) [some (.val (intsD ns)), some (.val (.int k)), some (.val (.int c)), some (.val (.int big)), some (.val (.int (mixK big k)))] := by
    unfold b_law_pool
    rw [seqAs, seqNx hc, seqNx h3, seqNx h4]
    exact h5
  exact ⟨y, mixK big k, ⟨hy, mixK0 _ _, mixK1 _ _⟩, fnRt2 (body := b_law_pool) (n := 5) (P := []) rfl rfl hbody rfl⟩
end Sh
set_option maxHeartbeats 1000000
namespace Sh
open PySem PySem.Spec Dn L2
/-! ### groups -/
abbrev KV := List (Int × List Int)
def ins : KV → Int → Int → KV
  | [], k, x => [(k, [x])]
  | p :: r, k, x => if p.1 = k then (p.1, p.2 ++ [x]) :: r else p :: ins r k x
def gt : KV → Int → List Int
  | [], _ => []
  | p :: r, k => if p.1 = k then p.2 else gt r k
def kys (kv : KV) : List Int := kv.map (·.1)
theorem kys_cons (p : Int × List Int) (r : KV) : kys (p :: r) = p.1 :: kys r := rfl
def dlD (kv : KV) : List (PyData × List PyData) := kv.map fun p => (.int p.1, p.2.map .int)
def dcD (kv : KV) : List (PyData × PyData) := kv.map fun p => (.int p.1, tupD p.2)
theorem keyBI (i j : Int) : keyB (.int i) (.int j) = decide (i = j) := rfl
theorem lapp_dl : ∀ (kv : KV) (k x : Int), lapp (dlD kv) (.int k) (.int x) = dlD (ins kv k x)
  | [], _, _ => rfl
  | p :: r, k, x => by
    show (if keyB (.int p.1) (.int k) then ((PyData.int p.1), p.2.map PyData.int ++ [.int x]) :: dlD r else (PyData.int p.1, p.2.map PyData.int) :: lapp (dlD r) (.int k) (.int x)) = _
    rw [keyBI, lapp_dl r k x]
    by_cases h : p.1 = k <;> simp [ins, h, dlD]
theorem dget_dl : ∀ (kv : KV) (k : Int), dget (dlD kv) (.int k) = if k ∈ kys kv then some ((gt kv k).map .int) else none
  | [], _ => by simp [dlD, dget, kys]
  | p :: r, k => by
    show (if keyB (.int p.1) (.int k) then some (p.2.map PyData.int) else dget (dlD r) (.int k)) = _
    rw [keyBI, dget_dl r k]
    by_cases h : p.1 = k
    · simp [gt, h, kys_cons]
    · have h' : ¬ k = p.1 := fun z => h z.symm
      simp [gt, h, h', kys_cons]
theorem dget_dc : ∀ (kv : KV) (k : Int), dget (dcD kv) (.int k) = if k ∈ kys kv then some (tupD (gt kv k)) else none
  | [], _ => by simp [dcD, dget, kys]
  | p :: r, k => by
    show (if keyB (.int p.1) (.int k) then some (tupD p.2) else dget (dcD r) (.int k)) = _
    rw [keyBI, dget_dc r k]
    by_cases h : p.1 = k
    · simp [gt, h, kys_cons]
    · have h' : ¬ k = p.1 := fun z => h z.symm
      simp [gt, h, h', kys_cons]
theorem gt_no : ∀ {kv : KV} {k : Int}, k ∉ kys kv → gt kv k = []
  | [], _, _ => rfl
  | p :: r, k, h => by
    have h1 : ¬ p.1 = k := fun z => h (by simp [kys, z])
    have h2 : k ∉ kys r := fun z => h (by simp only [kys, List.map_cons]; exact List.mem_cons_of_mem _ z)
    simp only [gt, if_neg h1]
    exact gt_no h2
theorem dc_any (kv : KV) (k : Int) : (dcD kv).any (fun p => keyB p.1 (.int k)) = decide (k ∈ kys kv) := by
  induction kv with
  | nil => rfl
  | cons p r ih =>
    show (keyB (.int p.1) (.int k) || (dcD r).any fun p => keyB p.1 (.int k)) = _
    rw [ih, keyBI]
    by_cases h : p.1 = k
    · simp [h, kys_cons]
    · have h' : ¬ k = p.1 := fun z => h z.symm
      simp [h, h', kys_cons]
theorem dc_map_no (v : PyData) : ∀ (kv : KV) (k : Int), k ∉ kys kv → (dcD kv).map (fun p => if keyB p.1 (.int k) then (p.1, v) else p) = dcD kv
  | [], _, _ => rfl
  | p :: r, k, h => by
    have h1 : ¬ p.1 = k := fun z => h (by simp [kys, z])
    have h2 : k ∉ kys r := fun z => h (by simp only [kys, List.map_cons]; exact List.mem_cons_of_mem _ z)
    show (if keyB (.int p.1) (.int k) then (PyData.int p.1, v) else (.int p.1, tupD p.2)) :: (dcD r).map _ = _
    rw [keyBI, dc_map_no v r k h2]
    simp [h1, dcD]
theorem ins_no : ∀ (kv : KV) (k x : Int), k ∉ kys kv → ins kv k x = kv ++ [(k, [x])]
  | [], _, _, _ => rfl
  | p :: r, k, x, h => by
    have h1 : ¬ p.1 = k := fun z => h (by simp [kys, z])
    have h2 : k ∉ kys r := fun z => h (by simp only [kys, List.map_cons]; exact List.mem_cons_of_mem _ z)
    simp [ins, h1, ins_no r k x h2]
theorem dc_map_yes : ∀ (kv : KV) (k x : Int), (kys kv).Nodup → k ∈ kys kv → (dcD kv).map (fun p => if keyB p.1 (.int k) then (p.1, tupD (gt kv k ++ [x])) else p) = dcD (ins kv k x)
  | [], _, _, _, h => by simp [kys] at h
  | p :: r, k, x, nd, h => by
    have nd' := List.nodup_cons.mp nd
    show (if keyB (.int p.1) (.int k) then (PyData.int p.1, tupD (gt (p :: r) k ++ [x])) else (.int p.1, tupD p.2)) :: (dcD r).map _ = _
    rw [keyBI]
    by_cases h1 : p.1 = k
    · have h2 : k ∉ kys r := h1 ▸ nd'.1
      rw [dc_map_no _ r k h2]
      simp [h1, ins, gt, dcD]
    · have h2 : k ∈ kys r := by
        rcases List.mem_cons.mp h with z | z
        · exact absurd z.symm h1
        · exact z
      have e := dc_map_yes r k x nd'.2 h2
      simp only [gt, if_neg h1, decide_eq_false h1, Bool.false_eq_true, if_false]
      rw [e]
      simp [ins, h1, dcD]
theorem dput_dc (kv : KV) (k x : Int) (nd : (kys kv).Nodup) : dput (dcD kv) (.int k) (tupD (gt kv k ++ [x])) = dcD (ins kv k x) := by
  unfold dput
  rw [dc_any]
  by_cases h : k ∈ kys kv
  · rw [decide_eq_true h, if_pos rfl]
    exact dc_map_yes kv k x nd h
  · rw [decide_eq_false h, if_neg (by decide), ins_no kv k x h, gt_no h]
    simp [dcD]
theorem kys_ins : ∀ (kv : KV) (k x : Int), kys (ins kv k x) = if k ∈ kys kv then kys kv else kys kv ++ [k]
  | [], _, _ => by simp [ins, kys]
  | p :: r, k, x => by
    by_cases h : p.1 = k
    · simp [ins, h, kys]
    · have h' : ¬ k = p.1 := fun z => h z.symm
      have e := kys_ins r k x
      simp only [ins, if_neg h]
      show p.1 :: kys (ins r k x) = _
      rw [e]
      by_cases h2 : k ∈ kys r
      · have h3 : k ∈ kys (p :: r) := List.mem_cons_of_mem _ h2
        rw [if_pos h2, if_pos h3]
        rfl
      · have h3 : k ∉ kys (p :: r) := fun z => by
          rcases List.mem_cons.mp z with z | z
          · exact h' z
          · exact h2 z
        rw [if_neg h2, if_neg h3]
        rfl
theorem kys_nd {kv : KV} {k x : Int} (h : (kys kv).Nodup) : (kys (ins kv k x)).Nodup := by
  rw [kys_ins]
  by_cases z : k ∈ kys kv
  · rw [if_pos z]
    exact h
  · rw [if_neg z, List.nodup_append]
    refine ⟨h, by simp, fun a ha b hb => ?_⟩
    rw [List.mem_singleton.mp hb]
    exact fun e => z (e ▸ ha)
def vls (kv : KV) : List Int := (kv.map (·.2)).flatten
theorem vls_ins : ∀ (kv : KV) (k x : Int), (vls (ins kv k x)).Perm (vls kv ++ [x])
  | [], _, _ => List.Perm.refl _
  | p :: r, k, x => by
    by_cases h : p.1 = k
    · simp only [ins, if_pos h]
      show ((p.2 ++ [x]) ++ vls r).Perm ((p.2 ++ vls r) ++ [x])
      rw [List.append_assoc, List.append_assoc]
      exact (List.perm_append_comm).append_left _
    · simp only [ins, if_neg h]
      show (p.2 ++ vls (ins r k x)).Perm ((p.2 ++ vls r) ++ [x])
      rw [List.append_assoc]
      exact (vls_ins r k x).append_left _
theorem ins_ne : ∀ {kv : KV} {k x : Int}, (∀ p ∈ kv, p.2 ≠ []) → ∀ p ∈ ins kv k x, p.2 ≠ []
  | [], k, x, _, p, hp => by
    rw [List.mem_singleton.mp hp]
    simp
  | q :: r, k, x, h, p, hp => by
    by_cases z : q.1 = k
    · simp only [ins, if_pos z] at hp
      rcases List.mem_cons.mp hp with rfl | hp
      · simp
      · exact h p (List.mem_cons_of_mem _ hp)
    · simp only [ins, if_neg z] at hp
      rcases List.mem_cons.mp hp with rfl | hp
      · exact h _ List.mem_cons_self
      · exact ins_ne (fun w hw => h w (List.mem_cons_of_mem _ hw)) p hp
theorem ins_len (kv : KV) (k x : Int) : (ins kv k x).length ≤ kv.length + 1 := by
  have e : (ins kv k x).length = (kys (ins kv k x)).length := (List.length_map _).symm
  rw [e, kys_ins]
  split <;> simp [kys]
theorem gt_mem : ∀ {kv : KV} {k : Int}, k ∈ kys kv → (k, gt kv k) ∈ kv
  | [], _, h => by simp [kys] at h
  | p :: r, k, h => by
    by_cases z : p.1 = k
    · simp only [gt, if_pos z]
      rw [← z]
      exact List.mem_cons_self
    · simp only [gt, if_neg z]
      rcases List.mem_cons.mp h with e | e
      · exact absurd e.symm z
      · exact List.mem_cons_of_mem _ (gt_mem e)
theorem gt_at : ∀ {kv : KV}, (kys kv).Nodup → (kys kv).map (gt kv) = kv.map (·.2)
  | [], _ => rfl
  | p :: r, nd => by
    have nd' := List.nodup_cons.mp nd
    show gt (p :: r) p.1 :: (kys r).map (gt (p :: r)) = p.2 :: r.map (·.2)
    rw [← gt_at nd'.2]
    congr 1
    · simp [gt]
    · refine List.map_congr_left fun k hk => ?_
      have z : ¬ p.1 = k := fun e => by
        subst e
        exact nd'.1 hk
      simp [gt, z]
def grp (s : Int → Int) (ls : List Int) : KV := ls.foldl (fun kv x => ins kv (s x) x) []
theorem grp_snoc (s : Int → Int) (ls : List Int) (x : Int) : grp s (ls ++ [x]) = ins (grp s ls) (s x) x := by
  unfold grp
  rw [List.foldl_append]
  rfl
structure GrpOk (s : Int → Int) (ls : List Int) (kv : KV) : Prop where
  nd : (kys kv).Nodup
  ne : ∀ p ∈ kv, p.2 ≠ []
  pm : (vls kv).Perm ls
  ks : ∀ k ∈ kys kv, ∃ x ∈ ls, k = s x
  len : kv.length ≤ ls.length
theorem grp_ok (s : Int → Int) (ls : List Int) : GrpOk s ls (grp s ls) := by
  have go : ∀ n, n ≤ ls.length → GrpOk s (ls.take n) (grp s (ls.take n)) := by
    intro n
    induction n with
    | zero => exact fun _ => ⟨by simp [grp, kys], by simp [grp], by simp [grp, vls], by simp [grp, kys], by simp [grp]⟩
    | succ n ih =>
      intro h
      have I := ih (by omega)
      have hl : n < ls.length := by omega
      rw [List.take_add_one, List.getElem?_eq_getElem hl]
      show GrpOk s (ls.take n ++ [ls[n]]) (grp s (ls.take n ++ [ls[n]]))
      rw [grp_snoc]
      refine ⟨kys_nd I.nd, ins_ne I.ne, (vls_ins _ _ _).trans (I.pm.append_right _), fun k hk => ?_, ?_⟩
      · rw [kys_ins] at hk
        by_cases z : s ls[n] ∈ kys (grp s (ls.take n))
        · rw [if_pos z] at hk
          obtain ⟨x, hx, e⟩ := I.ks k hk
          exact ⟨x, List.mem_append_left _ hx, e⟩
        · rw [if_neg z] at hk
          rcases List.mem_append.mp hk with hk | hk
          · obtain ⟨x, hx, e⟩ := I.ks k hk
            exact ⟨x, List.mem_append_left _ hx, e⟩
          · exact ⟨ls[n], List.mem_append_right _ (List.mem_singleton.mpr rfl), List.mem_singleton.mp hk⟩
      · have a := ins_len (grp s (ls.take n)) (s ls[n]) ls[n]
        have b := I.len
        rw [List.length_append, List.length_singleton]
        omega
  have z := go ls.length (Nat.le_refl _)
  rw [List.take_length] at z
  exact z
/-- the groups, by their keys, as data -/
def grpL (kv : KV) : List (List Int) := (srtI (kys kv)).map (gt kv)
def prD (kv : KV) (k : Int) : PyData := .tuple [.int k, tupD (gt kv k)]
def grpD (kv : KV) : PyData := .tuple ((srtI (kys kv)).map (prD kv))
theorem grp_all {s : Int → Int} {ls : List Int} {kv : KV} (h : GrpOk s ls kv) : (grpL kv).flatten.Perm ls := by
  have a : (grpL kv).Perm ((kys kv).map (gt kv)) := (srtI_perm _).map _
  rw [gt_at h.nd] at a
  exact (a.flatten).trans h.pm
theorem grp_sorted {s : Int → Int} {ls : List Int} {kv : KV} (h : GrpOk s ls kv) (hs : ls.Pairwise (· < ·)) : srtI (grpL kv).flatten = ls := by
  refine (srtI_uniq (grp_all h).symm ?_).symm
  exact hs.imp fun z => Int.le_of_lt z
theorem keysI_dl (kv : KV) : keysI (dlD kv) = some (kys kv) := by
  unfold keysI dlD
  rw [List.map_map]
  have e : (kv.map ((fun x => x.1) ∘ fun p => (PyData.int p.1, p.2.map PyData.int))) = (kys kv).map .int := by
    unfold kys
    rw [List.map_map]
    rfl
  rw [e, intsMap]
theorem keysI_dc (kv : KV) : keysI (dcD kv) = some (kys kv) := by
  unfold keysI dcD
  rw [List.map_map]
  have e : (kv.map ((fun x => x.1) ∘ fun p => (PyData.int p.1, tupD p.2))) = (kys kv).map .int := by
    unfold kys
    rw [List.map_map]
    rfl
  rw [e, intsMap]
end Sh
set_option maxHeartbeats 1000000
namespace Sh
open PySem PySem.Spec Dn L2
/-! ### what is shown -/
theorem okApp (x y : Str) : PyData.strOk (x ++ y) = (PyData.strOk x && PyData.strOk y) := by
  show ((x.cps ++ y.cps).all (· < 0x110000)) = _
  rw [Array.all_append]
  rfl
theorem okJoin : ∀ ts : List Str, ts.all PyData.strOk = true → PyData.strOk (Str.join ", " ts) = true
  | [], _ => by decide +kernel
  | [x], h => by
    have e : Str.join ", " [x] = x := rfl
    rw [e]
    simpa using h
  | x :: y :: r, h => by
    have e : Str.join ", " (x :: y :: r) = x ++ ", " ++ Str.join ", " (y :: r) := rfl
    rw [List.all_cons, Bool.and_eq_true] at h
    rw [e, okApp, okApp, h.1, okJoin (y :: r) h.2]
    decide +kernel
theorem smallShown : ∀ k : Nat, k < 40 → PyData.strOk (PyData.shown (.int (k : Int))) = true ∧ (PyData.shown (.int (k : Int))).length ≤ 2 ∧ ((k : Int).natAbs.log2 < 1920) := by
  decide +kernel
/-- data that can be shown, so deep and so long -/
structure Shw (d : PyData) (dp B : Nat) : Prop where
  sh : PyData.showable d = true
  nd : PyData.hasDict d = false
  dep : PyData.depth d ≤ dp
  ok : PyData.strOk (PyData.shown d) = true
  len : (PyData.shown d).length ≤ B
theorem Shw.int {i : Int} (h0 : 0 ≤ i) (h1 : i < 40) : Shw (.int i) 0 2 := by
  have z := smallShown i.toNat (by omega)
  have e : ((i.toNat : Nat) : Int) = i := by omega
  rw [e] at z
  have z1 := PyData.showableAll_ints [i] (fun k hk => by rw [List.mem_singleton.mp hk]; exact z.2.2)
  have z2 : PyData.showable (.int i) = true := by
    have w : PyData.showableAll ([i].map .int) = (PyData.showable (.int i) && PyData.showableAll []) := rfl
    rw [w, Bool.and_eq_true] at z1
    exact z1.1
  exact ⟨z2, rfl, Nat.le_refl _, z.1, z.2.1⟩
theorem Shw.none : Shw .none 0 4 := ⟨by decide +kernel, by decide +kernel, by decide +kernel, by decide +kernel, by decide +kernel⟩
theorem Shw.mono {d : PyData} {dp dp' B B' : Nat} (h : Shw d dp B) (h1 : dp ≤ dp') (h2 : B ≤ B') : Shw d dp' B' := ⟨h.sh, h.nd, Nat.le_trans h.dep h1, h.ok, Nat.le_trans h.len h2⟩
theorem Shw.tup {dp B : Nat} {ds : List PyData} (h : ∀ d ∈ ds, Shw d dp B) : Shw (.tuple ds) (dp + 1) ((B + 2) * ds.length + 3) := by
  have all : ∀ ds : List PyData, (∀ d ∈ ds, Shw d dp B) → PyData.showableAll ds = true ∧ PyData.hasDictAll ds = false ∧ PyData.depthAll ds ≤ dp ∧ (PyData.shownAll ds).all PyData.strOk = true ∧ ((PyData.shownAll ds).map (·.length)).sum ≤ B * ds.length := by
    intro ds
    induction ds with
    | nil => exact fun _ => ⟨rfl, rfl, Nat.zero_le _, rfl, Nat.zero_le _⟩
    | cons d r ih =>
      intro h
      obtain ⟨i1, i2, i3, i4, i5⟩ := ih fun x hx => h x (List.mem_cons_of_mem _ hx)
      have z := h d List.mem_cons_self
      refine ⟨?_, ?_, ?_, ?_, ?_⟩
      · show (PyData.showable d && PyData.showableAll r) = true
        rw [z.sh, i1]
        rfl
      · show (PyData.hasDict d || PyData.hasDictAll r) = false
        rw [z.nd, i2]
        rfl
      · show max (PyData.depth d) (PyData.depthAll r) ≤ dp
        have := z.dep
        omega
      · rw [PyData.shownAll_cons, List.all_cons, z.ok, i4]
        rfl
      · rw [PyData.shownAll_cons, List.map_cons, List.sum_cons, List.length_cons, Nat.mul_succ]
        have := z.len
        omega
  obtain ⟨i1, i2, i3, i4, i5⟩ := all ds h
  refine ⟨i1, i2, ?_, ?_, ?_⟩
  · show PyData.depthAll ds + 1 ≤ dp + 1
    omega
  · rw [PyData.shown_tuple, okApp, okApp, okJoin _ i4]
    have e1 : PyData.strOk (("(" : String) : Str) = true := by decide +kernel
    rw [e1]
    split <;> decide +kernel
  · have e : PyData.shown (.tuple ds) = tupleText (PyData.shownAll ds) := by simp only [PyData.shown]
    rw [e]
    have a := tupleText_len_le (PyData.shownAll ds)
    have c : (PyData.shownAll ds).length = ds.length := PyData.shownAll_length _
    rw [c] at a
    have m : (B + 2) * ds.length = B * ds.length + 2 * ds.length := Nat.add_mul _ _ _
    omega
theorem Shw.repr {ds : List PyData} {dp B : Nat} (h : Shw (.tuple ds) dp B) (h1 : dp ≤ 64) (h2 : B ≤ 16777216) : bRepr [.tuple ds] = some (.str (PyData.shown (.tuple ds))) :=
  if_pos ⟨h.sh, h.nd, Nat.le_trans h.dep h1, Nat.le_trans h.len h2⟩
theorem Shw.ints {xs : List Int} (h : ∀ x ∈ xs, 0 ≤ x ∧ x < 40) : Shw (tupD xs) 1 (4 * xs.length + 3) := by
  have z := Shw.tup (dp := 0) (B := 2) (ds := xs.map .int) fun d hd => by
    obtain ⟨x, hx, rfl⟩ := List.mem_map.mp hd
    exact Shw.int (h x hx).1 (h x hx).2
  rw [List.length_map] at z
  exact z
theorem shStr {x : Str} (h : PyData.strOk x = true) : SeqAt.shaped (.str x) = true := by
  unfold SeqAt.shaped
  have e : PyData.canLay0 (.str x) = true := h
  rw [e]
  rfl
theorem neStr {x : Str} (h : PyData.strOk x = true) : cNe (.str x) (.str x) = some false := by
  show (if SeqAt.shaped (.str x) = true ∧ SeqAt.shaped (.str x) = true then some (!PyData.eqv (.str x) (.str x)) else none) = _
  rw [if_pos ⟨shStr h, shStr h⟩]
  have e : PyData.eqv (.str x) (.str x) = true := by
    show (x == x) = true
    simp
  rw [e]
  rfl
theorem eqStr {x : Str} (h : PyData.strOk x = true) : cEq (.str x) (.str x) = some true := by
  show (if SeqAt.shaped (.str x) = true ∧ SeqAt.shaped (.str x) = true then some (PyData.eqv (.str x) (.str x)) else none) = _
  rw [if_pos ⟨shStr h, shStr h⟩]
  have e : PyData.eqv (.str x) (.str x) = true := by
    show (x == x) = true
    simp
  rw [e]
def tf (b : Bool) : Str := if b then "True" else "False"
theorem okTf (b : Bool) : PyData.strOk (tf b) = true := by cases b <;> decide +kernel
@[simp] theorem reprB (b : Bool) : bRepr [.bool b] = some (.str (tf b)) := by cases b <;> rfl
theorem neTf (b : Bool) : cNe (.str (tf b)) (.str (tf b)) = some false := neStr (okTf b)
theorem eqTf (b : Bool) : cEq (.str (tf b)) (.str (tf b)) = some true := eqStr (okTf b)
/-! ### a comprehension over a name that may hold something -/
theorem comp_pureV {v : Nat} {t : Mi Bool} {m : Mi PyData} {mi : Mi (List PyData)} {r r0 : Rho} {ds : List PyData} (p : PyData → Bool) (f : PyData → PyData) (hi : mi r = .ok ds r0) (hv : r0[v]? = some none ∨ ∃ d, r0[v]? = some (some (.val d))) (hl : ds.length < 16777216)
    (st : ∀ d ∈ ds, t (r0.set v (some (.val d))) = .ok (p d) (r0.set v (some (.val d))) ∧ (p d = true → m (r0.set v (some (.val d))) = .ok (f d) (r0.set v (some (.val d))))) :
    mComp mi (gNm v) t m [v] r = .ok ((ds.filter p).map f) r0 := by
  obtain ⟨r', c1, c2⟩ := compL_pure (v := v) (t := t) (m := m) p f ds [] r0 rfl (by simpa using hl) st
  rw [e_comp, e_bind, hi]
  simp only
  rw [c1]
  simp only [List.nil_append, e_rest1, e_rest0]
  congr 1
  have any : ∀ x : Option Ent, r'.set v x = r0.set v x := fun x => by
    have z := congrArg (fun l : Rho => l.set v x) c2
    simp only [List.set_set] at z
    exact z
  rw [any]
  apply List.ext_getElem?
  intro j
  by_cases hj : v = j
  · subst hj
    rcases hv with hv | ⟨d, hv⟩
    · rw [List.getElem?_set_self (List.getElem?_eq_some_iff.mp hv).1, hv]
    · rw [List.getElem?_set_self (List.getElem?_eq_some_iff.mp hv).1, hv]
  · rw [List.getElem?_set_ne hj]
/-! ### signs of a rig -/
def Rig.row (g : Rig) (s : Int) : List Int := g.signs.getD s.toNat []
def Rig.sg (g : Rig) (s x : Int) : Int := (g.row s).getD x.toNat 0
section
variable {g : Rig} {s : Int}
theorem row_mem (s0 : 0 ≤ s) (s1 : s < g.signs.length) : g.row s ∈ g.signs := by
  have hl : s.toNat < g.signs.length := by omega
  have e : g.row s = g.signs[s.toNat] := by simp [Rig.row, hl]
  rw [e]
  exact List.getElem_mem hl
theorem sd_at (s0 : 0 ≤ s) (s1 : s < g.signs.length) : fIx g.sd (.int s) = some (tupD (g.row s)) := by
  have hl : s.toNat < g.signs.length := by omega
  have e : (g.signs.map tupD)[s.toNat]? = some (tupD (g.row s)) := by
    rw [List.getElem?_map, List.getElem?_eq_getElem hl]
    simp [Rig.row, hl]
  have z := atI_nat e
  have ex : ((s.toNat : Nat) : Int) = s := by omega
  rw [ex] at z
  exact z
theorem row_at (ok : g.ok) (s0 : 0 ≤ s) (s1 : s < g.signs.length) {x : Int} (x0 : 0 ≤ x) (x1 : x < g.n) : fIx (tupD (g.row s)) (.int x) = some (.int (g.sg s x)) := by
  have hn := (ok.sok _ (row_mem s0 s1)).1
  have hl : x.toNat < (g.row s).length := by omega
  have e : ((g.row s).map PyData.int)[x.toNat]? = some (.int (g.sg s x)) := by
    rw [List.getElem?_map, List.getElem?_eq_getElem hl]
    simp [Rig.sg, hl]
  have z := atI_nat e
  have ex : ((x.toNat : Nat) : Int) = x := by omega
  rw [ex] at z
  exact z
theorem sg_in (ok : g.ok) (s0 : 0 ≤ s) (s1 : s < g.signs.length) {x : Int} (x0 : 0 ≤ x) (x1 : x < g.n) : 0 ≤ g.sg s x ∧ g.sg s x ≤ 9 := by
  have hs := ok.sok _ (row_mem s0 s1)
  have hl : x.toNat < (g.row s).length := by
    rw [hs.1]
    omega
  have e : g.sg s x = (g.row s)[x.toNat] := by simp [Rig.sg, hl]
  rw [e]
  exact hs.2 _ (List.getElem_mem hl)
end
theorem gt_len : ∀ (kv : KV) (k : Int), (gt kv k).length ≤ (vls kv).length
  | [], _ => Nat.le_refl _
  | p :: r, k => by
    show _ ≤ (p.2 ++ vls r).length
    rw [List.length_append]
    by_cases h : p.1 = k
    · simp [gt, h]
    · have := gt_len r k
      simp only [gt, if_neg h]
      omega
@[simp] theorem dkeysL (kvs : List (PyData × List PyData)) : dkeys (.hotDL kvs) = keysI kvs := rfl
@[simp] theorem dkeysD (kvs : List (PyData × PyData)) : dkeys (.hotD kvs) = keysI kvs := rfl
theorem dl_len (kv : KV) : (dlD kv).length = kv.length := List.length_map _
theorem dc_len (kv : KV) : (dcD kv).length = kv.length := List.length_map _
theorem ky_len (kv : KV) : (kys kv).length = kv.length := List.length_map _
theorem srt_len (kv : KV) : (srtI (kys kv)).length = kv.length := (srtI_perm _).length_eq.trans (ky_len kv)
theorem fAddT (xs ys : List Int) (h : xs.length + ys.length ≤ 16777216) : fAdd (tupD xs) (tupD ys) = some (tupD (xs ++ ys)) := by
  have e : isMv (xs.map PyData.int ++ ys.map PyData.int) = false := by
    rw [← List.map_append]
    exact isMvInts _
  have z : fAdd (tupD xs) (tupD ys) = some (.tuple (xs.map PyData.int ++ ys.map PyData.int)) := if_pos ⟨by simpa using h, e⟩
  rw [z, ← List.map_append]
  rfl
section
variable {g : Rig} {s : Int} {ls : List Int}
theorem parts_at_ok (ok : g.ok) (s0 : 0 ≤ s) (s1 : s < g.signs.length) (hx : ∀ x ∈ ls, 0 ≤ x ∧ x < g.n) (hl : ls.length ≤ 24) : f_parts_at [.val g.d, .val (tupD ls), .val (.int s)] = .rt (.cold (grpD (grp (g.sg s) ls))) [] := by
  obtain ⟨r', lp, x5, hr⟩ := forL_inv (g := gNm 5) (b := l_parts_at_0)
    (fun k r => ∃ x5, r = [some (.val g.d), some (.val (tupD ls)), some (.val (.int s)), some (.val (tupD (g.row s))), some (.hotDL (dlD (grp (g.sg s) (ls.take k)))), x5, none])
    (ls.map .int) 0 [some (.val g.d), some (.val (tupD ls)), some (.val (.int s)), some (.val (tupD (g.row s))), some (.hotDL []), none, none] ⟨none, rfl⟩
    (fun j d r hd ⟨x5, hr⟩ => by
      subst hr
      rw [List.getElem?_map] at hd
      obtain ⟨x, hj, rfl⟩ := Option.map_eq_some_iff.mp hd
      obtain ⟨x0, x1⟩ := hx x (List.mem_of_getElem? hj)
      have G := grp_ok (g.sg s) (ls.take (0 + j))
      have ll : (ls.take (0 + j)).length ≤ 24 := Nat.le_trans (List.length_take_le' _ _) hl
      have b1 := G.len
      have b2 := gt_len (grp (g.sg s) (ls.take (0 + j))) (g.sg s x)
      rw [G.pm.length_eq] at b2
      have grow : ls.take (0 + j + 1) = ls.take (0 + j) ++ [x] := by
        rw [Nat.zero_add, List.take_add_one, hj]
        rfl
      refine ⟨_, [some (.val g.d), some (.val (tupD ls)), some (.val (.int s)), some (.val (tupD (g.row s))), some (.hotDL (dlD (grp (g.sg s) (ls.take (0 + j + 1))))), some (.val (.int x)), none], rfl, ?_, _, rfl⟩
      rw [grow, grp_snoc]
      generalize grp (g.sg s) (ls.take (0 + j)) = kv at b1 b2 ⊢
      have c1 : kv.length < 16777216 := by omega
      have c2 : (gt kv (g.sg s x)).length < 16777216 := by omega
      by_cases z : g.sg s x ∈ kys kv
      · simp [l_parts_at_0, row_at ok s0 s1 x0 x1, dget_dl, lapp_dl, dl_len, z, c1, c2]
      · simp [l_parts_at_0, row_at ok s0 s1 x0 x1, dget_dl, lapp_dl, dl_len, z, c1, c2])
  subst hr
  rw [show ls.take (0 + (ls.map PyData.int).length) = ls by simp] at lp
  have G := grp_ok (g.sg s) ls
  generalize grp (g.sg s) ls = kv at lp G ⊢
  have b1 := G.len
  have hb : b_parts_at [some (.val g.d), some (.val (tupD ls)), some (.val (.int s)), none, none, none, none] = .rt (.cold (grpD kv)) [some (.val g.d), some (.val (tupD ls)), some (.val (.int s)), some (.val (tupD (g.row s))), some (.hotDL (dlD kv)), x5, none] := by
    unfold b_parts_at
    refine (seqNx (r1 := [some (.val g.d), some (.val (tupD ls)), some (.val (.int s)), some (.val (tupD (g.row s))), none, none, none]) (by simp [rig_s, sd_at s0 s1])).trans ?_
    refine (seqNx (r1 := [some (.val g.d), some (.val (tupD ls)), some (.val (.int s)), some (.val (tupD (g.row s))), some (.hotDL []), none, none]) (by simp)).trans ?_
    refine (seqNx (forS (by simp [tupD]) lp)).trans ?_
    have k64 : (kys kv).length < 64 := by
      rw [ky_len]
      omega
    have hc := comp_pure (v := 6) (t := t_parts_at_1) (m := e_parts_at_1) (mi := mIter (mSortD 4)) (r := [some (.val g.d), some (.val (tupD ls)), some (.val (.int s)), some (.val (tupD (g.row s))), some (.hotDL (dlD kv)), x5, none]) (r0 := [some (.val g.d), some (.val (tupD ls)), some (.val (.int s)), some (.val (tupD (g.row s))), some (.hotDL (dlD kv)), x5, none])
      (ds := (srtI (kys kv)).map .int) (fun _ => true) (fun d => match d with | .int k => prD kv k | _ => .none) (by simp [keysI_dl, k64]) rfl (by rw [List.length_map, srt_len]; omega) (fun d hd => by
        obtain ⟨k, hk, rfl⟩ := List.mem_map.mp hd
        have z : k ∈ kys kv := (srtI_perm _).mem_iff.mp hk
        exact ⟨by simp [t_parts_at_1], fun _ => by simp [e_parts_at_1, dget_dl, z, prD, tupD]⟩)
    rw [List.filter_eq_self.mpr (fun _ _ => rfl), List.map_map] at hc
    rw [e_sret, e_sBind, e_blt, e_bind, e_cons, e_bind, e_ofF, e_bind, hc]
    rfl
  unfold f_parts_at
  exact fnRt2 rfl rfl hb rfl
theorem shown_ok (ok : g.ok) (s0 : 0 ≤ s) (s1 : s < g.signs.length) (hx : ∀ x ∈ ls, 0 ≤ x ∧ x < g.n) (hl : ls.length ≤ 24) : f_law_shown_pairs [.val g.d, .val (tupD ls), .val (.int s)] = .rt (.cold (grpD (grp (g.sg s) ls))) [] := by
  obtain ⟨r', lp, x4, x5, hr, h5⟩ := forL_inv (g := gNm 4) (b := l_law_shown_pairs_0)
    (fun k r => ∃ x4 x5, r = [some (.val g.d), some (.val (tupD ls)), some (.val (.int s)), some (.hotD (dcD (grp (g.sg s) (ls.take k)))), x4, x5] ∧ (x5 = none ∨ ∃ d, x5 = some (.val d)))
    (ls.map .int) 0 [some (.val g.d), some (.val (tupD ls)), some (.val (.int s)), some (.hotD []), none, none] ⟨none, none, rfl, .inl rfl⟩
    (fun j d r hd ⟨x4, x5, hr, _⟩ => by
      subst hr
      rw [List.getElem?_map] at hd
      obtain ⟨x, hj, rfl⟩ := Option.map_eq_some_iff.mp hd
      obtain ⟨x0, x1⟩ := hx x (List.mem_of_getElem? hj)
      have G := grp_ok (g.sg s) (ls.take (0 + j))
      have ll : (ls.take (0 + j)).length ≤ 24 := Nat.le_trans (List.length_take_le' _ _) hl
      have b1 := G.len
      have b2 := gt_len (grp (g.sg s) (ls.take (0 + j))) (g.sg s x)
      rw [G.pm.length_eq] at b2
      have grow : ls.take (0 + j + 1) = ls.take (0 + j) ++ [x] := by
        rw [Nat.zero_add, List.take_add_one, hj]
        rfl
      refine ⟨_, [some (.val g.d), some (.val (tupD ls)), some (.val (.int s)), some (.hotD (dcD (grp (g.sg s) (ls.take (0 + j + 1))))), some (.val (.int x)), some (.val (.int (g.sg s x)))], rfl, ?_, _, _, rfl, .inr ⟨_, rfl⟩⟩
      rw [grow, grp_snoc]
      have nd := G.nd
      generalize grp (g.sg s) (ls.take (0 + j)) = kv at b1 b2 nd ⊢
      have c1 : kv.length < 16777216 := by omega
      have fa := fAddT (gt kv (g.sg s x)) [x] (by simp; omega)
      have dp := dput_dc kv (g.sg s x) x nd
      by_cases z : g.sg s x ∈ kys kv
      · have fa' : fAdd (tupD (gt kv (g.sg s x))) (.tuple [.int x]) = _ := fa
        simp [l_law_shown_pairs_0, rig_s, sd_at s0 s1, row_at ok s0 s1 x0 x1, dget_dc, dc_len, z, c1, fa', dp]
      · rw [gt_no z] at fa dp
        have fa' : fAdd (.tuple []) (.tuple [.int x]) = some (tupD ([] ++ [x])) := fa
        simp [l_law_shown_pairs_0, rig_s, sd_at s0 s1, row_at ok s0 s1 x0 x1, dget_dc, dc_len, z, c1, fa']
        simpa using dp)
  subst hr
  rw [show ls.take (0 + (ls.map PyData.int).length) = ls by simp] at lp
  have G := grp_ok (g.sg s) ls
  generalize grp (g.sg s) ls = kv at lp G ⊢
  have b1 := G.len
  have hb : b_law_shown_pairs [some (.val g.d), some (.val (tupD ls)), some (.val (.int s)), none, none, none] = .rt (.cold (grpD kv)) [some (.val g.d), some (.val (tupD ls)), some (.val (.int s)), some (.hotD (dcD kv)), x4, x5] := by
    unfold b_law_shown_pairs
    refine (seqNx (r1 := [some (.val g.d), some (.val (tupD ls)), some (.val (.int s)), some (.hotD []), none, none]) (by simp)).trans ?_
    refine (seqNx (forS (by simp [tupD]) lp)).trans ?_
    have k64 : (kys kv).length < 64 := by
      rw [ky_len]
      omega
    have hc := comp_pureV (v := 5) (t := t_law_shown_pairs_1) (m := e_law_shown_pairs_1) (mi := mIter (mSortD 3)) (r := [some (.val g.d), some (.val (tupD ls)), some (.val (.int s)), some (.hotD (dcD kv)), x4, x5]) (r0 := [some (.val g.d), some (.val (tupD ls)), some (.val (.int s)), some (.hotD (dcD kv)), x4, x5])
      (ds := (srtI (kys kv)).map .int) (fun _ => true) (fun d => match d with | .int k => prD kv k | _ => .none) (by simp [keysI_dc, k64]) (by rcases h5 with rfl | ⟨d, rfl⟩; exact .inl rfl; exact .inr ⟨d, rfl⟩) (by rw [List.length_map, srt_len]; omega) (fun d hd => by
        obtain ⟨k, hk, rfl⟩ := List.mem_map.mp hd
        have z : k ∈ kys kv := (srtI_perm _).mem_iff.mp hk
        exact ⟨by simp [t_law_shown_pairs_1], fun _ => by simp [e_law_shown_pairs_1, dget_dc, z, prD, tupD]⟩)
    rw [List.filter_eq_self.mpr (fun _ _ => rfl), List.map_map] at hc
    rw [e_sret, e_sBind, e_blt, e_bind, e_cons, e_bind, e_ofF, e_bind, hc]
    rfl
  unfold f_law_shown_pairs
  exact fnRt2 rfl rfl hb rfl
theorem grp_blen (kv : KV) : bLen [grpD kv] = some (.int kv.length) := by
  show some (PyData.int (((srtI (kys kv)).map (prD kv)).length : Nat)) = _
  rw [List.length_map, srt_len]
theorem has_parts_ok (ok : g.ok) (s0 : 0 ≤ s) (s1 : s < g.signs.length) (hx : ∀ x ∈ ls, 0 ≤ x ∧ x < g.n) (hl : ls.length ≤ 24) : f_has_parts [.val g.d, .val (tupD ls), .val (.int s)] = .rt (.cold (.bool (decide (1 < (grp (g.sg s) ls).length)))) [] := by
  simp [f_has_parts, b_has_parts, parts_at_ok ok s0 s1 hx hl, grp_blen]
  omega
theorem parted_ok (ok : g.ok) (s0 : 0 ≤ s) (s1 : s < g.signs.length) (h : asc g.n (-1) ls = true) : f_parted [.val g.d, .val (tupD ls), .val (.int s)] = .rt (.cold (grpD (grp (g.sg s) ls))) [] := by
  simp [f_parted, b_parted, check_ok ok ls h, check_setting_ok g s0 s1, parts_at_ok ok s0 s1 (lot_in h) (lot_len ok h)]
theorem one_sign_ok (ok : g.ok) (s0 : 0 ≤ s) (s1 : s < g.signs.length) (h : asc g.n (-1) ls = true) : f_one_sign [.val g.d, .val (tupD ls), .val (.int s)] = .rt (.cold (.bool (!decide (1 < (grp (g.sg s) ls).length)))) [] := by
  simp [f_one_sign, b_one_sign, check_ok ok ls h, check_setting_ok g s0 s1, has_parts_ok ok s0 s1 (lot_in h) (lot_len ok h)]
theorem grp_shw (ok : g.ok) (s0 : 0 ≤ s) (s1 : s < g.signs.length) (hx : ∀ x ∈ ls, 0 ≤ x ∧ x < g.n) (hl : ls.length ≤ 24) : Shw (grpD (grp (g.sg s) ls)) 3 6000 := by
  have G := grp_ok (g.sg s) ls
  generalize hk : grp (g.sg s) ls = kv at G ⊢
  have n24 := ok.n2
  have b1 := G.len
  have z := Shw.tup (dp := 2) (B := 210) (ds := (srtI (kys kv)).map (prD kv)) fun d hd => by
    obtain ⟨k, hk, rfl⟩ := List.mem_map.mp hd
    have hk' : k ∈ kys kv := (srtI_perm _).mem_iff.mp hk
    obtain ⟨x, hxm, rfl⟩ := G.ks k hk'
    obtain ⟨x0, x1⟩ := hx x hxm
    have w := sg_in ok s0 s1 x0 x1
    have b2 := gt_len kv (g.sg s x)
    rw [G.pm.length_eq] at b2
    have mem : ∀ y ∈ gt kv (g.sg s x), y ∈ ls := fun y hy => by
      refine G.pm.mem_iff.mp ?_
      unfold vls
      exact List.mem_flatten.mpr ⟨_, List.mem_map.mpr ⟨_, gt_mem hk', rfl⟩, hy⟩
    have t1 := (Shw.ints (xs := gt kv (g.sg s x)) fun y hy => by
      have q := hx y (mem y hy)
      omega).mono (dp' := 1) (B' := 100) (Nat.le_refl _) (by omega)
    exact (Shw.tup (dp := 1) (B := 100) (ds := [.int (g.sg s x), tupD (gt kv (g.sg s x))]) fun d hd => by
      rcases List.mem_cons.mp hd with rfl | hd
      · exact (Shw.int w.1 (by omega)).mono (by omega) (by omega)
      · rw [List.mem_singleton.mp hd]
        exact t1).mono (Nat.le_refl _) (by simp)
  refine z.mono (Nat.le_refl _) ?_
  rw [List.length_map, srt_len]
  omega
end
end Sh
set_option maxHeartbeats 1000000
namespace Sh
open PySem PySem.Spec Dn L2
theorem sizes_ok {a b : Int} (I : Inv a b) : ∃ (a' b' : Int) (g : Rig), Inv a' b' ∧ Rig.ok g ∧ f_law_rig_of_all_sizes [.hot (src a b)] = .rt (.cold g.d) [.hot (src a' b')] := by
  obtain ⟨a1, b1, g, I1, ok, n2, n6, s2, s5, e1⟩ := rig_ok I 6 5 (by decide) (by decide) (by decide) (by decide)
  obtain ⟨t, a2, b2, I2, u2, v2, e2⟩ := take_ok I1 (top := 6) (by decide) (by decide)
  by_cases ht : 0 < t
  · refine ⟨a2, b2, g, I2, ok, ?_⟩
    have hb : b_law_rig_of_all_sizes [some (.hot (src a b)), none, none, none] = .rt (.cold g.d) [some (.hot (src a2 b2)), some (.val g.d), none, none] := by
      unfold b_law_rig_of_all_sizes
      refine (seqNx (r1 := [some (.hot (src a1 b1)), some (.val g.d), none, none]) (by simp [e1])).trans ?_
      simp [e2, ht]
    unfold f_law_rig_of_all_sizes
    exact fnRt2 rfl rfl hb rfl
  · obtain ⟨a3, b3, d, I3, hd, e3⟩ := one_ok I2 [.int 1, .int 24] (by simp) (by simp)
    obtain ⟨n, n1, n24, rfl⟩ : ∃ n : Nat, 1 ≤ n ∧ n ≤ 24 ∧ d = .int n := by
      simp only [List.mem_cons, List.not_mem_nil, or_false] at hd
      rcases hd with rfl | rfl
      · exact ⟨1, by decide, by decide, rfl⟩
      · exact ⟨24, by decide, by decide, rfl⟩
    obtain ⟨a4, b4, cs, I4, c1, c2, e4⟩ := cures_ok I3 n g.q n24 ok.q1 ok.q2
    obtain ⟨a5, b5, ss, I5, d1, d2, e5⟩ := signs_ok I4 n g.signs.length n1 n24 ok.s2
    refine ⟨a5, b5, ⟨n, g.q, cs, ss, g.moves⟩, I5, ⟨n1, n24, ok.q1, ok.q2, c1, c2, ?_, ?_, d2, ok.m2, ?_, ok.mord⟩, ?_⟩
    · show 1 ≤ ss.length
      rw [d1]
      exact ok.s1
    · show ss.length ≤ 40
      rw [d1]
      exact ok.s2
    · show ∀ p ∈ g.moves, mvOk ss.length p
      rw [d1]
      exact ok.mok
    have hb : b_law_rig_of_all_sizes [some (.hot (src a b)), none, none, none] = .rt (.cold (Rig.d ⟨n, g.q, cs, ss, g.moves⟩)) [some (.hot (src a5 b5)), some (.val g.d), some (.val (.int n)), some (.val (.int g.signs.length))] := by
      unfold b_law_rig_of_all_sizes
      refine (seqNx (r1 := [some (.hot (src a1 b1)), some (.val g.d), none, none]) (by simp [e1])).trans ?_
      refine (seqNx (r1 := [some (.hot (src a2 b2)), some (.val g.d), none, none]) (by simp [e2, ht])).trans ?_
      refine (seqNx (r1 := [some (.hot (src a3 b3)), some (.val g.d), some (.val (.int n)), some (.val (.int g.signs.length))]) (by simp [e3, rig_s, sd_len])).trans ?_
      have hq := rig_q g
      have hm := rig_m g
      generalize g.d = G at hq hm ⊢
      simp [e4, e5, hq, hm, Rig.d, Rig.cd, Rig.sd, Rig.md]
    unfold f_law_rig_of_all_sizes
    exact fnRt2 rfl rfl hb rfl
theorem fAddL (xs ys : List PyData) (h : xs.length + ys.length ≤ 16777216) : fAdd (.list xs) (.list ys) = some (.list (xs ++ ys)) := if_pos h
theorem asked_ok {a b : Int} (I : Inv a b) {g : Rig} (ok : g.ok) : ∃ (a' b' : Int) (Ls : List (List Int)), Inv a' b' ∧ (∀ L ∈ Ls, asc g.n (-1) L = true) ∧ f_law_lots_asked [.hot (src a b), .val g.d] = .rt (.cold (.list (Ls.map tupD))) [.hot (src a' b')] := by
  have n24 := ok.n2
  have hc1 := comp_pure (v := 3) (t := t_law_lots_asked_0) (m := e_law_lots_asked_0) (mi := mRng rng1 (mCons (mIxV 1 (Mi.ret (.int 0))) mNil)) (r := [some (.hot (src a b)), some (.val g.d), none, none, none]) (r0 := [some (.hot (src a b)), some (.val g.d), none, none, none])
    (ds := (rg g.n).map .int) (fun _ => true) id (rngE (q := g.n) (by simp [rig_n]) (by omega)) rfl (by simp [rg_len]; omega) (fun d _ => ⟨by simp [t_law_lots_asked_0], fun _ => by simp [e_law_lots_asked_0]⟩)
  rw [filt_all] at hc1
  let R : Int → Int → Option Ent → Rho := fun a b x => [some (.hot (src a b)), some (.val g.d), some (.val (.list ((rg g.n).map .int))), none, x]
  obtain ⟨acc, r', c, a', b', Ls, x, I', hr, hacc, hA, hlen⟩ := compL_inv (g := gNm 4) (t := t_law_lots_asked_1) (m := e_law_lots_asked_1) (vs := [4])
    (fun k acc r => ∃ (a b : Int) (Ls : List (List Int)) (x : Option Ent), Inv a b ∧ r = R a b x ∧ acc = Ls.map tupD ∧ (∀ L ∈ Ls, asc g.n (-1) L = true) ∧ Ls.length = k)
    ((rg 4).map .int) [] 0 (R a b none) ⟨a, b, [], none, I, rfl, rfl, (fun L hL => by cases hL), rfl⟩ (by simp [rg_len])
    (fun j d acc r hd ⟨a, b, Ls, x, I, hr, hacc, hA, hlen⟩ => by
      subst hr
      subst hacc
      obtain ⟨a', b', ys, I', hs, e⟩ := some_ok I (.list ((rg g.n).map .int)) (rg g.n) rfl (by rw [rg_len]; omega)
      refine ⟨R a b (some (.val d)), R a b (some (.val d)), rfl, .inr ⟨tupD ys, R a' b' (some (.val d)), by simp [t_law_lots_asked_1], (by simp [R, e_law_lots_asked_1, e, bTup, tupD]), a', b', Ls ++ [ys], _, I', rfl, by simp, fun L hL' => ?_, by simp [hlen]⟩⟩
      rcases List.mem_append.mp hL' with z | z
      · exact hA L z
      · rw [List.mem_singleton.mp z]
        exact asc_sub hs (asc_rg g.n (-1) (by decide)))
  subst hr
  subst hacc
  have hc2 : mComp (mRng rng1 (mCons (Mi.ret (.int 4)) mNil)) (gNm 4) t_law_lots_asked_1 e_law_lots_asked_1 [4] (R a b none) = .ok (Ls.map tupD) (R a' b' none) := by
    rw [mCompOf (rngE (q := 4) (by simp) (by omega)) c]
    simp [R]
  refine ⟨a', b', [[], rg g.n] ++ Ls, I', fun L hL => ?_, ?_⟩
  · rcases List.mem_append.mp hL with z | z
    · rcases List.mem_cons.mp z with rfl | z
      · rfl
      · rw [List.mem_singleton.mp z]
        exact asc_rg g.n (-1) (by decide)
    · exact hA L z
  have hl : Ls.length = 4 := by
    rw [hlen]
    simp [rg_len]
  have hb : b_law_lots_asked [some (.hot (src a b)), some (.val g.d), none, none, none] = .rt (.cold (.list (([[], rg g.n] ++ Ls).map tupD))) (R a' b' none) := by
    unfold b_law_lots_asked
    refine (seqNx (r1 := [some (.hot (src a b)), some (.val g.d), some (.hot ((rg g.n).map .int)), none, none]) (by rw [e_seth, e_sBind, hc1]; rfl)).trans ?_
    have first : mLst (mCons (mTup mNil) (mCons (mBlt bTup (mCons (mVar 2) mNil)) mNil)) [some (.hot (src a b)), some (.val g.d), some (.hot ((rg g.n).map .int)), none, none] = .ok (.list ([[], rg g.n].map tupD)) (R a b none) := by
      simp [bTup, R, tupD]
    rw [e_sret, e_sBind, e_bin, e_bind, first]
    simp only [e_bind, e_ofF]
    rw [hc2]
    have f := fAddL ([[], rg g.n].map tupD) (Ls.map tupD) (by simp only [List.length_map, List.length_cons, List.length_nil] at *; omega)
    simp only [e_ret, f, e_some]
    rw [List.map_append]
  unfold f_law_lots_asked
  exact fnRt2 rfl rfl hb rfl
end Sh
set_option maxHeartbeats 4000000
namespace K03
open PySem PySem.Spec PyProof.Rows L2 Dn Sh

def topS (i : Nat) : Stmt := PySem.Challenge.pw_waryrig_k03_signs_that_part_lots.main.body.getD i (.Pass ⟨0, 0, 0, 0⟩)
def is_BadLot : Str → Option Bool := fun c => if c = "BadLot" then some true else if c = "BadRig" then some false else if c = "BadSetting" then some false else none
def is_BadSetting : Str → Option Bool := fun c => if c = "BadLot" then some false else if c = "BadRig" then some false else if c = "BadSetting" then some true else none
def is_Refused : Str → Option Bool := fun c => if c = "BadLot" then some true else if c = "BadRig" then some true else if c = "BadSetting" then some true else none
theorem isD_BadLot {c : Str} {b : Bool} (h : is_BadLot c = some b) : (is_BadLot c).isSome = true := by
  unfold is_BadLot at h
  unfold is_BadLot
  by_cases e0 : c = "BadLot"
  · rw [if_pos e0]
    rfl
  rw [if_neg e0] at h ⊢
  by_cases e1 : c = "BadRig"
  · rw [if_pos e1]
    rfl
  rw [if_neg e1] at h ⊢
  by_cases e2 : c = "BadSetting"
  · rw [if_pos e2]
    rfl
  rw [if_neg e2] at h ⊢
  cases h
theorem isS_BadLot {c : Str} (h : is_BadLot c = some true) : (is_BadLot c).isSome = true := isD_BadLot h
theorem isD_BadSetting {c : Str} {b : Bool} (h : is_BadSetting c = some b) : (is_BadLot c).isSome = true := by
  unfold is_BadSetting at h
  unfold is_BadLot
  by_cases e0 : c = "BadLot"
  · rw [if_pos e0]
    rfl
  rw [if_neg e0] at h ⊢
  by_cases e1 : c = "BadRig"
  · rw [if_pos e1]
    rfl
  rw [if_neg e1] at h ⊢
  by_cases e2 : c = "BadSetting"
  · rw [if_pos e2]
    rfl
  rw [if_neg e2] at h ⊢
  cases h
theorem isS_BadSetting {c : Str} (h : is_BadSetting c = some true) : (is_BadLot c).isSome = true := isD_BadSetting h
theorem isD_Refused {c : Str} {b : Bool} (h : is_Refused c = some b) : (is_BadLot c).isSome = true := by
  unfold is_Refused at h
  unfold is_BadLot
  by_cases e0 : c = "BadLot"
  · rw [if_pos e0]
    rfl
  rw [if_neg e0] at h ⊢
  by_cases e1 : c = "BadRig"
  · rw [if_pos e1]
    rfl
  rw [if_neg e1] at h ⊢
  by_cases e2 : c = "BadSetting"
  · rw [if_pos e2]
    rfl
  rw [if_neg e2] at h ⊢
  cases h
theorem isS_Refused {c : Str} (h : is_Refused c = some true) : (is_BadLot c).isSome = true := isD_Refused h
/-! ## the mirrors that are its own -/
abbrev s_is_number : Stmt := topS 6
abbrev s_is_from : Stmt := topS 7
abbrev s_is_index : Stmt := topS 8
abbrev s_is_tuple_of : Stmt := topS 9
abbrev s_is_ascending : Stmt := topS 10
abbrev s_wrong_cures : Stmt := topS 24
abbrev s_are_signs : Stmt := topS 26
abbrev s_wrong_signs : Stmt := topS 25
abbrev s_wrong_moves : Stmt := topS 27
abbrev s_wrong_place : Stmt := topS 23
abbrev s_made_rig : Stmt := topS 22
abbrev s_check_setting : Stmt := topS 28
abbrev s_check_lot : Stmt := topS 30
abbrev s_check_rig_and_lot : Stmt := topS 31
abbrev s_parts_at : Stmt := topS 34
abbrev s_has_parts : Stmt := topS 35
abbrev s_one_sign : Stmt := topS 32
abbrev s_parted : Stmt := topS 33
abbrev s_law_pool : Stmt := topS 37
abbrev s_law_take : Stmt := topS 38
abbrev s_law_one : Stmt := topS 39
abbrev s_law_some : Stmt := topS 40
abbrev s_law_joined_moves : Stmt := topS 41
abbrev s_law_signs : Stmt := topS 42
abbrev s_law_cures : Stmt := topS 43
abbrev s_law_rig : Stmt := topS 44
abbrev s_law_rig_of_all_sizes : Stmt := topS 45
abbrev s_law_lots_asked : Stmt := topS 46
abbrev s_law_shown_pairs : Stmt := topS 47
abbrev s_law_lot_refused : Stmt := topS 48
def b_law_lot_refused : Out PyData → Rho → Fl := fun th => sSeq (sTryL ((some 1, is_BadLot, fun c w => sRet (mTup (mCons (Mi.ret (.str "lot")) (mCons (Mi.ret w) (mNil))))) :: (some 1, is_BadSetting, fun c w => sRet (mTup (mCons (Mi.ret (.str "setting")) (mCons (Mi.ret w) (mNil))))) :: (some 1, is_Refused, fun c w => sRet (mTup (mCons (Mi.ret (.str "other")) (mCons (Mi.ret w) (mNil))))) :: []) (sExpr (mThk th))) (sRet (mTup (mCons (Mi.ret (.str "told")) (mCons (Mi.ret .none) (mNil)))))
def f_law_lot_refused : Out PyData → List PyData → FT := fnT b_law_lot_refused 2
abbrev s_law_wrong_right : Stmt := topS 49
def b_law_wrong_right : Rho → Fl := sSeq (sPar 2 3 (mCons (mIxV 1 (Mi.ret (.int 0))) (mCons (mBlt bLen (mCons (mIxV 1 (Mi.ret (.int 3))) (mNil))) (mNil)))) (sSeq (sSet 4 (mCall f_law_take (aHot 0 (aVal (mVar 3) (aNil))))) (sSeq (sSet 5 (mCall f_law_one (aHot 0 (aVal (mLst (mCons (Mi.ret .none) (mCons (mTup (mCons (mVar 2) (mNil))) (mCons (mTup (mCons (mNeg (Mi.ret (.int 1))) (mNil))) (mCons (mTup (mCons (Mi.ret (.int 0)) (mCons (Mi.ret (.int 0)) (mNil)))) (mCons (Mi.ret (.int 0)) (mCons (Mi.ret (.str "0")) (mCons (mTup (mCons (mTup (mCons (Mi.ret (.int 0)) (mNil))) (mNil))) (mCons (mTup (mCons (Mi.ret (.int 0)) (mCons (Mi.ret .none) (mNil)))) (mCons (mTup (mCons (mBin fSub (mVar 2) (Mi.ret (.int 1))) (mCons (Mi.ret (.int 0)) (mNil)))) (mNil))))))))))) (aNil))))) (sSeq (sSet 6 (mCall f_law_one (aHot 0 (aVal (mLst (mCons (mVar 3) (mCons (mNeg (Mi.ret (.int 1))) (mCons (Mi.ret .none) (mCons (Mi.ret (.str "0")) (mCons (mTup (mCons (Mi.ret (.int 0)) (mNil))) (mNil))))))) (aNil))))) (sSeq (sIf (mTst cNe (mLam f_law_lot_refused (mCall f_parted (aVal (mVar 1) (aVal (mVar 5) (aVal (mVar 6) (aNil))))) []) (mTup (mCons (Mi.ret (.str "lot")) (mCons (mNeg (Mi.ret (.int 1))) (mNil))))) (sRet (Mi.ret (.bool false))) (fun r => .nx r)) (sSeq (sIf (mTst cNe (mLam f_law_lot_refused (mCall f_one_sign (aVal (mVar 1) (aVal (mVar 5) (aVal (mVar 4) (aNil))))) []) (mTup (mCons (Mi.ret (.str "lot")) (mCons (mNeg (Mi.ret (.int 1))) (mNil))))) (sRet (Mi.ret (.bool false))) (fun r => .nx r)) (sSeq (sIf (mTst cNe (mLam f_law_lot_refused (mCall f_parted (aVal (mVar 1) (aVal (mTup (mNil)) (aVal (mVar 6) (aNil))))) []) (mTup (mCons (Mi.ret (.str "setting")) (mCons (mVar 6) (mNil))))) (sRet (Mi.ret (.bool false))) (fun r => .nx r)) (sRet (mBin (fB cEq) (mLam f_law_lot_refused (mCall f_one_sign (aVal (mVar 1) (aVal (mTup (mCons (Mi.ret (.int 0)) (mNil))) (aVal (mVar 6) (aNil))))) []) (mTup (mCons (Mi.ret (.str "setting")) (mCons (mVar 6) (mNil))))))))))))
def f_law_wrong_right : List Ent → FO := fnM b_law_wrong_right 7 [0]
abbrev s_law : Stmt := topS 50
def t_law_0 : Mi Bool := Mi.ret true
def e_law_0 : Mi PyData := mIxV 8 (Mi.ret (.int 1))
def l_law_1 : Rho → Fl := sSeq (sPar 6 7 (mCons (mCall f_law_shown_pairs (aVal (mVar 3) (aVal (mVar 4) (aVal (mVar 5) (aNil))))) (mCons (mCall f_parted (aVal (mVar 3) (aVal (mVar 4) (aVal (mVar 5) (aNil))))) (mNil)))) (sSeq (sIf (tOrM (mTst cNe (mBlt bRepr (mCons (mVar 7) (mNil))) (mBlt bRepr (mCons (mVar 6) (mNil)))) (mTst cNe (mBlt bRepr (mCons (mCall f_one_sign (aVal (mVar 3) (aVal (mVar 4) (aVal (mVar 5) (aNil))))) (mNil))) (mBlt bRepr (mCons (mBin (fB cLt) (mLenV 6) (Mi.ret (.int 2))) (mNil))))) (sRet (Mi.ret (.bool false))) (fun r => .nx r)) (sIf (mTst cNe (mBlt bSort2 (mCons (mBlt bSumT (mCons (mOfF (mComp (mIter (mVar 7)) (gNm 8) t_law_0 e_law_0 [8])) (mCons (mTup (mNil)) (mNil)))) (mNil))) (mBlt bLst (mCons (mVar 4) (mNil)))) (sRet (Mi.ret (.bool false))) (fun r => .nx r)))
def l_law_2 : Rho → Fl := sFor (mRng rng1 (mCons (mBlt bLen (mCons (mIxV 3 (Mi.ret (.int 3))) (mNil))) (mNil))) (gNm 5) l_law_1
def l_law_3 : Rho → Fl := sSeq (sSetE 2 (mCallE f_law_pool (aVal (mVar 0) (aVal (mVar 1) (aNil))))) (sSeq (sSet 3 (mCall f_law_rig_of_all_sizes (aHot 2 (aNil)))) (sSeq (sFor (mIter (mCall f_law_lots_asked (aHot 2 (aVal (mVar 3) (aNil))))) (gNm 4) l_law_2) (sIf (tNotM (mTru (mCall f_law_wrong_right (aHot 2 (aVal (mVar 3) (aNil)))))) (sRet (Mi.ret (.bool false))) (fun r => .nx r))))
def b_law : Rho → Fl := sSeq (sFor (mRng rng1 (mCons (mBlt bMax (mCons (Mi.ret (.int 1)) (mCons (mBlt bMin (mCons (mLenV 0) (mCons (Mi.ret (.int 3)) (mNil)))) (mNil)))) (mNil))) (gNm 1) l_law_3) (sRet (Mi.ret (.bool true)))
def f_law : List Ent → FO := fnM b_law 9 []
/-! ## the derivations -/
structure Gs (K : PySem.W.Frag) (mg : Str → Option Value) (C_BadLot : Addr) (C_BadRig : Addr) (C_BadSetting : Addr) (C_Refused : Addr) : Prop where
  n_all : mg "all" = none
  n_bool : mg "bool" = none
  n_enumerate : mg "enumerate" = none
  n_int : mg "int" = none
  n_isinstance : mg "isinstance" = none
  n_len : mg "len" = none
  n_list : mg "list" = none
  n_max : mg "max" = none
  n_min : mg "min" = none
  n_range : mg "range" = none
  n_repr : mg "repr" = none
  n_sorted : mg "sorted" = none
  n_sum : mg "sum" = none
  n_tuple : mg "tuple" = none
  c_CURES : ∃ t, mg "CURES" = some (.int 2 t)
  c_FAULTS : ∃ t, mg "FAULTS" = some (.int 0 t)
  c_GREATEST_SIGN : ∃ t, mg "GREATEST_SIGN" = some (.int 9 t)
  c_MOST_FAULTS : ∃ t, mg "MOST_FAULTS" = some (.int 24 t)
  c_MOST_MOVES : ∃ t, mg "MOST_MOVES" = some (.int 200 t)
  c_MOST_REMEDIES : ∃ t, mg "MOST_REMEDIES" = some (.int 16 t)
  c_MOST_SETTINGS : ∃ t, mg "MOST_SETTINGS" = some (.int 40 t)
  c_MOVES : ∃ t, mg "MOVES" = some (.int 4 t)
  c_REMEDIES : ∃ t, mg "REMEDIES" = some (.int 1 t)
  c_SIGNS : ∃ t, mg "SIGNS" = some (.int 3 t)
  x_BadLot : ∃ fI, PySem.WhX.WhTxt K mg "BadLot" C_BadLot fI
  x_BadRig : ∃ fI, PySem.WhX.WhTxt K mg "BadRig" C_BadRig fI
  x_BadSetting : ∃ fI, PySem.WhX.WhTxt K mg "BadSetting" C_BadSetting fI
  x_Refused : ∃ fI, PySem.WhX.WhTxt K mg "Refused" C_Refused fI
  err : ∀ c A, (is_BadLot c).isSome = true → mg c = some (.ref A) → (∃ fI, PySem.WhX.WhTxt K mg c A fI) ∧ PySem.W.ErrC K A
  k_BadLot : ∀ c A, mg c = some (.ref A) → ∀ b, is_BadLot c = some b → PySem.W.kitOne K (.ref A) (.ref C_BadLot) = some b
  m_BadLot : ∀ c A b, is_BadLot c = some b → mg c = some (.ref A) → PySem.W.exmOne K (.ref A) (.ref C_BadLot) = some b
  k_BadSetting : ∀ c A, mg c = some (.ref A) → ∀ b, is_BadSetting c = some b → PySem.W.kitOne K (.ref A) (.ref C_BadSetting) = some b
  m_BadSetting : ∀ c A b, is_BadSetting c = some b → mg c = some (.ref A) → PySem.W.exmOne K (.ref A) (.ref C_BadSetting) = some b
  k_Refused : ∀ c A, mg c = some (.ref A) → ∀ b, is_Refused c = some b → PySem.W.kitOne K (.ref A) (.ref C_Refused) = some b
  m_Refused : ∀ c A b, is_Refused c = some b → mg c = some (.ref A) → PySem.W.exmOne K (.ref A) (.ref C_Refused) = some b
section
variable {Pg : Program} {w : World} {K : PySem.W.Frag} {mg : Str → Option Value} {base : Heap} {T : List (Addr × Str)} {C_BadLot : Addr} {C_BadRig : Addr} {C_BadSetting : Addr} {C_Refused : Addr}
theorem sc_is_number : FnScope ["thing"] ["thing"] (defScope s_is_number) := ⟨rfl, rfl, rfl, by decide +kernel, rfl, by decide +kernel, by decide +kernel⟩
theorem ok_is_number (G : Gs K mg C_BadLot C_BadRig C_BadSetting C_Refused) {f : Addr} {cdv : Value} (D : At K mg "is_number" s_is_number ["thing"] f cdv)  : Good Pg w K mg base T 1 "is_number" ["thing"] f_is_number :=
  goodOf (dfnC (N := ["thing"]) (P := []) (body := b_is_number) D sc_is_number (by decide) fun A outer s H E hG hr =>
  (dsOne (dsRet (deAnd (deIsi (deVar (pv 0) (nin rfl)) rfl G.n_isinstance rfl G.n_int (by decide +kernel)) (deOne (deNot (deIsi (deVar (pv 0) (nin rfl)) rfl G.n_isinstance rfl G.n_bool (by decide +kernel))))))))
theorem sc_is_from : FnScope ["thing", "least", "most"] ["thing", "least", "most"] (defScope s_is_from) := ⟨rfl, rfl, rfl, by decide +kernel, rfl, by decide +kernel, by decide +kernel⟩
theorem ok_is_from (G : Gs K mg C_BadLot C_BadRig C_BadSetting C_Refused) {f : Addr} {cdv : Value} (D : At K mg "is_from" s_is_from ["thing", "least", "most"] f cdv) (D_is_number : Good Pg w K mg base T 1 "is_number" ["thing"] f_is_number) : Good Pg w K mg base T 2 "is_from" ["thing", "least", "most"] f_is_from :=
  goodOf (dfnC (N := ["thing", "least", "most"]) (P := []) (body := b_is_from) D sc_is_from (by decide) fun A outer s H E hG hr =>
  (dsOne (dsRet (deAnd (deCall D_is_number.1 hG (hr.mono (by decide)) (takes_of rfl rfl rfl rfl) (agVal (deVar (pv 0) (nin rfl)) agNil) rfl) (deOne (deChain oLe oLe (deVar (pv 1) (nin rfl)) (deVar (pv 0) (nin rfl)) (deVar (pv 2) (nin rfl)) (fun _ _ _ h1 h2 h3 => pe_chain oLe oLe h1 h2 h3)))))))
theorem sc_is_index : FnScope ["thing", "many"] ["thing", "many"] (defScope s_is_index) := ⟨rfl, rfl, rfl, by decide +kernel, rfl, by decide +kernel, by decide +kernel⟩
theorem ok_is_index (G : Gs K mg C_BadLot C_BadRig C_BadSetting C_Refused) {f : Addr} {cdv : Value} (D : At K mg "is_index" s_is_index ["thing", "many"] f cdv) (D_is_from : Good Pg w K mg base T 2 "is_from" ["thing", "least", "most"] f_is_from) : Good Pg w K mg base T 3 "is_index" ["thing", "many"] f_is_index :=
  goodOf (dfnC (N := ["thing", "many"]) (P := []) (body := b_is_index) D sc_is_index (by decide) fun A outer s H E hG hr =>
  (dsOne (dsRet (deCall D_is_from.1 hG (hr.mono (by decide)) (takes_of rfl rfl rfl rfl) (agVal (deVar (pv 0) (nin rfl)) (agVal deInt (agVal (deOp oSub (deVar (pv 1) (nin rfl)) deInt) agNil))) rfl))))
theorem sc_is_tuple_of : FnScope ["thing", "least", "most"] ["thing", "least", "most"] (defScope s_is_tuple_of) := ⟨rfl, rfl, rfl, by decide +kernel, rfl, by decide +kernel, by decide +kernel⟩
theorem ok_is_tuple_of (G : Gs K mg C_BadLot C_BadRig C_BadSetting C_Refused) {f : Addr} {cdv : Value} (D : At K mg "is_tuple_of" s_is_tuple_of ["thing", "least", "most"] f cdv)  : Good Pg w K mg base T 1 "is_tuple_of" ["thing", "least", "most"] f_is_tuple_of :=
  goodOf (dfnC (N := ["thing", "least", "most"]) (P := []) (body := b_is_tuple_of) D sc_is_tuple_of (by decide) fun A outer s H E hG hr =>
  (dsOne (dsRet (deAnd (deIsi (deVar (pv 0) (nin rfl)) rfl G.n_isinstance rfl G.n_tuple (by decide +kernel)) (deOne (deChain oLe oLe (deVar (pv 1) (nin rfl)) (deLenV (pv 0) rfl G.n_len) (deVar (pv 2) (nin rfl)) (fun _ _ _ h1 h2 h3 => pe_chain oLe oLe h1 h2 h3)))))))
theorem sc_is_ascending : FnScope ["thing", "many", "ahead", "part"] ["thing", "many"] (defScope s_is_ascending) := ⟨rfl, rfl, rfl, by decide +kernel, rfl, by decide +kernel, by decide +kernel⟩
theorem ok_is_ascending (G : Gs K mg C_BadLot C_BadRig C_BadSetting C_Refused) {f : Addr} {cdv : Value} (D : At K mg "is_ascending" s_is_ascending ["thing", "many"] f cdv) (D_is_number : Good Pg w K mg base T 1 "is_number" ["thing"] f_is_number) : Good Pg w K mg base T 2 "is_ascending" ["thing", "many"] f_is_ascending :=
  goodOf (dfnC (N := ["thing", "many", "ahead", "part"]) (P := []) (body := b_is_ascending) D sc_is_ascending (by decide) fun A outer s H E hG hr =>
  (dsCons (dsIf (dtNot (dtOf (deIsi (deVar (pv 0) (nin rfl)) rfl G.n_isinstance rfl G.n_tuple (by decide +kernel)))) (dsOne (dsRet deBl)) dsNil)
  (dsCons (dsSet (i := 2) (deNeg deInt) (nin rfl) (fun te h => ps_set (i := 2) sc_is_ascending.nd rfl (by first | exact .inl rfl | exact .inr rfl) h))
  (dsCons (dsFor (passes_of rfl) rfl (diSeq (deVar (pv 0) (nin rfl))) (dgName (pg_name (i := 3) sc_is_ascending.nd rfl (by first | exact .inl rfl | exact .inr rfl)) (nin rfl)) (dsCons (dsIf (dtW (dwOr (dtNot (dtOf (deCall D_is_number.1 hG (hr.mono (by decide)) (takes_of rfl rfl rfl rfl) (agVal (deVar (pv 3) (nin rfl)) agNil) rfl))) (dwOr1 (dtNot (dtChain (oLt (Room.u64 hr)) (oLt (Room.u64 hr)) (deVar (pv 2) (nin rfl)) (deVar (pv 3) (nin rfl)) (deVar (pv 1) (nin rfl))))))) (dsOne (dsRet deBl)) dsNil)
  (dsOne (dsSet (i := 2) (deVar (pv 3) (nin rfl)) (nin rfl) (fun te h => ps_set (i := 2) sc_is_ascending.nd rfl (by first | exact .inl rfl | exact .inr rfl) h)))))
  (dsOne (dsRet deBl))))))
theorem sc_wrong_cures : FnScope ["cures", "n", "q", "x", "entry"] ["cures", "n", "q"] (defScope s_wrong_cures) := ⟨rfl, rfl, rfl, by decide +kernel, rfl, by decide +kernel, by decide +kernel⟩
theorem ok_wrong_cures (G : Gs K mg C_BadLot C_BadRig C_BadSetting C_Refused) {f : Addr} {cdv : Value} (D : At K mg "wrong_cures" s_wrong_cures ["cures", "n", "q"] f cdv) (D_is_tuple_of : Good Pg w K mg base T 1 "is_tuple_of" ["thing", "least", "most"] f_is_tuple_of) (D_is_ascending : Good Pg w K mg base T 2 "is_ascending" ["thing", "many"] f_is_ascending) : Good Pg w K mg base T 3 "wrong_cures" ["cures", "n", "q"] f_wrong_cures :=
  goodOf (dfnC (N := ["cures", "n", "q", "x", "entry"]) (P := []) (body := b_wrong_cures) D sc_wrong_cures (by decide) fun A outer s H E hG hr =>
  (dsCons (dsIf (dtNot (dtOf (deCall D_is_tuple_of.1 hG (hr.mono (by decide)) (takes_of rfl rfl rfl rfl) (agVal (deVar (pv 0) (nin rfl)) (agVal (deVar (pv 1) (nin rfl)) (agVal (deVar (pv 1) (nin rfl)) agNil))) rfl))) (dsOne (dsRet (deTup (daCons (deGlob (v := .int 2) (d := .int 2) rfl G.c_CURES.choose_spec ⟨_, rfl⟩ (fun _ => .int _)) (daCons (deNeg deInt) daNil))))) dsNil)
  (dsCons (dsFor (passes_of rfl) rfl (diEnum rfl G.n_enumerate (deVar (pv 0) (nin rfl))) (dgTup rfl (dgCons (dgName (pg_name (i := 3) sc_wrong_cures.nd rfl (by first | exact .inl rfl | exact .inr rfl)) (nin rfl)) (dgCons (dgName (pg_name (i := 4) sc_wrong_cures.nd rfl (by first | exact .inl rfl | exact .inr rfl)) (nin rfl)) dgNil))) (dsOne (dsIf (dtNot (dtOf (deCall D_is_ascending.1 hG (hr.mono (by decide)) (takes_of rfl rfl rfl rfl) (agVal (deVar (pv 4) (nin rfl)) (agVal (deVar (pv 2) (nin rfl)) agNil)) rfl))) (dsOne (dsRet (deTup (daCons (deGlob (v := .int 2) (d := .int 2) rfl G.c_CURES.choose_spec ⟨_, rfl⟩ (fun _ => .int _)) (daCons (deVar (pv 3) (nin rfl)) daNil))))) dsNil)))
  (dsOne (dsRet deNon)))))
theorem sc_are_signs : FnScope ["entry", "n", "sign"] ["entry", "n"] (defScope s_are_signs) := ⟨rfl, rfl, rfl, by decide +kernel, rfl, by decide +kernel, by decide +kernel⟩
theorem ok_are_signs (G : Gs K mg C_BadLot C_BadRig C_BadSetting C_Refused) {f : Addr} {cdv : Value} (D : At K mg "are_signs" s_are_signs ["entry", "n"] f cdv) (D_is_tuple_of : Good Pg w K mg base T 1 "is_tuple_of" ["thing", "least", "most"] f_is_tuple_of) (D_is_from : Good Pg w K mg base T 2 "is_from" ["thing", "least", "most"] f_is_from) : Good Pg w K mg base T 3 "are_signs" ["entry", "n"] f_are_signs :=
  goodOf (dfnC (N := ["entry", "n", "sign"]) (P := []) (body := b_are_signs) D sc_are_signs (by decide) fun A outer s H E hG hr =>
  (dsCons (dsIf (dtNot (dtOf (deCall D_is_tuple_of.1 hG (hr.mono (by decide)) (takes_of rfl rfl rfl rfl) (agVal (deVar (pv 0) (nin rfl)) (agVal (deVar (pv 1) (nin rfl)) (agVal (deVar (pv 1) (nin rfl)) agNil))) rfl))) (dsOne (dsRet deBl)) dsNil)
  (dsOne (dsRet (deB (kAll rfl) (daCons (deOfF (dfComp rfl sc_are_signs.nd (diSeq (deVar (pv 0) (nin rfl))) (own := [("sign", 2)]) (by first | (show BlkOk ["entry", "n", "sign"] (defScope s_are_signs) _ _; constructor <;> decide +kernel) | exact blkOkR (N := ["entry", "n", "sign"]) rfl (by decide +kernel) (by decide +kernel) rfl (by decide +kernel)) (nins rfl) (by decide) (fun _ _ _ _ _ => (dgName (pg_name (i := 2) sc_are_signs.nd rfl (by first | exact .inl rfl | exact .inr rfl)) (nin rfl))) (fun _ _ _ _ _ => dtsNil) (fun _ _ _ _ _ => (deCall D_is_from.1 hG (hr.mono (by decide)) takes_none5 (agVal (deVar (pv 2) (nin rfl)) (agVal deInt (agVal (deGlob (v := .int 9) (d := .int 9) rfl G.c_GREATEST_SIGN.choose_spec ⟨_, rfl⟩ (fun _ => .int _)) agNil))) rfl)))) daNil) rfl G.n_all (by decide +kernel))))))
theorem sc_wrong_signs : FnScope ["signs", "n", "g", "entry"] ["signs", "n"] (defScope s_wrong_signs) := ⟨rfl, rfl, rfl, by decide +kernel, rfl, by decide +kernel, by decide +kernel⟩
theorem ok_wrong_signs (G : Gs K mg C_BadLot C_BadRig C_BadSetting C_Refused) {f : Addr} {cdv : Value} (D : At K mg "wrong_signs" s_wrong_signs ["signs", "n"] f cdv) (D_is_tuple_of : Good Pg w K mg base T 1 "is_tuple_of" ["thing", "least", "most"] f_is_tuple_of) (D_are_signs : Good Pg w K mg base T 3 "are_signs" ["entry", "n"] f_are_signs) : Good Pg w K mg base T 4 "wrong_signs" ["signs", "n"] f_wrong_signs :=
  goodOf (dfnC (N := ["signs", "n", "g", "entry"]) (P := []) (body := b_wrong_signs) D sc_wrong_signs (by decide) fun A outer s H E hG hr =>
  (dsCons (dsIf (dtNot (dtOf (deCall D_is_tuple_of.1 hG (hr.mono (by decide)) (takes_of rfl rfl rfl rfl) (agVal (deVar (pv 0) (nin rfl)) (agVal deInt (agVal (deGlob (v := .int 40) (d := .int 40) rfl G.c_MOST_SETTINGS.choose_spec ⟨_, rfl⟩ (fun _ => .int _)) agNil))) rfl))) (dsOne (dsRet (deTup (daCons (deGlob (v := .int 3) (d := .int 3) rfl G.c_SIGNS.choose_spec ⟨_, rfl⟩ (fun _ => .int _)) (daCons (deNeg deInt) daNil))))) dsNil)
  (dsCons (dsFor (passes_of rfl) rfl (diEnum rfl G.n_enumerate (deVar (pv 0) (nin rfl))) (dgTup rfl (dgCons (dgName (pg_name (i := 2) sc_wrong_signs.nd rfl (by first | exact .inl rfl | exact .inr rfl)) (nin rfl)) (dgCons (dgName (pg_name (i := 3) sc_wrong_signs.nd rfl (by first | exact .inl rfl | exact .inr rfl)) (nin rfl)) dgNil))) (dsOne (dsIf (dtNot (dtOf (deCall D_are_signs.1 hG (hr.mono (by decide)) (takes_of rfl rfl rfl rfl) (agVal (deVar (pv 3) (nin rfl)) (agVal (deVar (pv 1) (nin rfl)) agNil)) rfl))) (dsOne (dsRet (deTup (daCons (deGlob (v := .int 3) (d := .int 3) rfl G.c_SIGNS.choose_spec ⟨_, rfl⟩ (fun _ => .int _)) (daCons (deVar (pv 2) (nin rfl)) daNil))))) dsNil)))
  (dsOne (dsRet deNon)))))
theorem sc_wrong_moves : FnScope ["moves", "settings", "ahead", "k", "pair"] ["moves", "settings"] (defScope s_wrong_moves) := ⟨rfl, rfl, rfl, by decide +kernel, rfl, by decide +kernel, by decide +kernel⟩
theorem ok_wrong_moves (G : Gs K mg C_BadLot C_BadRig C_BadSetting C_Refused) {f : Addr} {cdv : Value} (D : At K mg "wrong_moves" s_wrong_moves ["moves", "settings"] f cdv) (D_is_tuple_of : Good Pg w K mg base T 1 "is_tuple_of" ["thing", "least", "most"] f_is_tuple_of) (D_is_ascending : Good Pg w K mg base T 2 "is_ascending" ["thing", "many"] f_is_ascending) : Good Pg w K mg base T 3 "wrong_moves" ["moves", "settings"] f_wrong_moves :=
  goodOf (dfnC (N := ["moves", "settings", "ahead", "k", "pair"]) (P := []) (body := b_wrong_moves) D sc_wrong_moves (by decide) fun A outer s H E hG hr =>
  (dsCons (dsIf (dtNot (dtOf (deCall D_is_tuple_of.1 hG (hr.mono (by decide)) (takes_of rfl rfl rfl rfl) (agVal (deVar (pv 0) (nin rfl)) (agVal deInt (agVal (deGlob (v := .int 200) (d := .int 200) rfl G.c_MOST_MOVES.choose_spec ⟨_, rfl⟩ (fun _ => .int _)) agNil))) rfl))) (dsOne (dsRet (deTup (daCons (deGlob (v := .int 4) (d := .int 4) rfl G.c_MOVES.choose_spec ⟨_, rfl⟩ (fun _ => .int _)) (daCons (deNeg deInt) daNil))))) dsNil)
  (dsCons (dsSet (i := 2) (deTup (daCons (deNeg deInt) (daCons (deNeg deInt) daNil))) (nin rfl) (fun te h => ps_set (i := 2) sc_wrong_moves.nd rfl (by first | exact .inl rfl | exact .inr rfl) h))
  (dsCons (dsFor (passes_of rfl) rfl (diEnum rfl G.n_enumerate (deVar (pv 0) (nin rfl))) (dgTup rfl (dgCons (dgName (pg_name (i := 3) sc_wrong_moves.nd rfl (by first | exact .inl rfl | exact .inr rfl)) (nin rfl)) (dgCons (dgName (pg_name (i := 4) sc_wrong_moves.nd rfl (by first | exact .inl rfl | exact .inr rfl)) (nin rfl)) dgNil))) (dsCons (dsIf (dtNot (dtW (dwAnd (dtOf (deCall D_is_tuple_of.1 hG (hr.mono (by decide)) (takes_of rfl rfl rfl rfl) (agVal (deVar (pv 4) (nin rfl)) (agVal deInt (agVal deInt agNil))) rfl)) (dwAnd (dtOf (deCall D_is_ascending.1 hG (hr.mono (by decide)) (takes_of rfl rfl rfl rfl) (agVal (deVar (pv 4) (nin rfl)) (agVal (deVar (pv 1) (nin rfl)) agNil)) rfl)) (dwAnd1 (dtCmp (oLt (Room.u64 hr)) (deVar (pv 2) (nin rfl)) (deVar (pv 4) (nin rfl)) (by first | rfl | exact nomark _))))))) (dsOne (dsRet (deTup (daCons (deGlob (v := .int 4) (d := .int 4) rfl G.c_MOVES.choose_spec ⟨_, rfl⟩ (fun _ => .int _)) (daCons (deVar (pv 3) (nin rfl)) daNil))))) dsNil)
  (dsOne (dsSet (i := 2) (deVar (pv 4) (nin rfl)) (nin rfl) (fun te h => ps_set (i := 2) sc_wrong_moves.nd rfl (by first | exact .inl rfl | exact .inr rfl) h)))))
  (dsOne (dsRet deNon))))))
theorem sc_wrong_place : FnScope ["thing", "n", "q", "cures", "signs", "moves"] ["thing"] (defScope s_wrong_place) := ⟨rfl, rfl, rfl, by decide +kernel, rfl, by decide +kernel, by decide +kernel⟩
theorem ok_wrong_place (G : Gs K mg C_BadLot C_BadRig C_BadSetting C_Refused) {f : Addr} {cdv : Value} (D : At K mg "wrong_place" s_wrong_place ["thing"] f cdv) (D_is_tuple_of : Good Pg w K mg base T 1 "is_tuple_of" ["thing", "least", "most"] f_is_tuple_of) (D_is_from : Good Pg w K mg base T 2 "is_from" ["thing", "least", "most"] f_is_from) (D_wrong_cures : Good Pg w K mg base T 3 "wrong_cures" ["cures", "n", "q"] f_wrong_cures) (D_wrong_signs : Good Pg w K mg base T 4 "wrong_signs" ["signs", "n"] f_wrong_signs) (D_wrong_moves : Good Pg w K mg base T 3 "wrong_moves" ["moves", "settings"] f_wrong_moves) : Good Pg w K mg base T 5 "wrong_place" ["thing"] f_wrong_place :=
  goodOf (dfnC (N := ["thing", "n", "q", "cures", "signs", "moves"]) (P := []) (body := b_wrong_place) D sc_wrong_place (by decide) fun A outer s H E hG hr =>
  (dsCons (dsIf (dtNot (dtOf (deCall D_is_tuple_of.1 hG (hr.mono (by decide)) (takes_of rfl rfl rfl rfl) (agVal (deVar (pv 0) (nin rfl)) (agVal deInt (agVal deInt agNil))) rfl))) (dsOne (dsRet (deTup (daCons (deNeg deInt) daNil)))) dsNil)
  (dsCons (dsAsg (deVar (pv 0) (nin rfl)) (dgTup rfl (dgCons (dgName (pg_name (i := 1) sc_wrong_place.nd rfl (by first | exact .inl rfl | exact .inr rfl)) (nin rfl)) (dgCons (dgName (pg_name (i := 2) sc_wrong_place.nd rfl (by first | exact .inl rfl | exact .inr rfl)) (nin rfl)) (dgCons (dgName (pg_name (i := 3) sc_wrong_place.nd rfl (by first | exact .inl rfl | exact .inr rfl)) (nin rfl)) (dgCons (dgName (pg_name (i := 4) sc_wrong_place.nd rfl (by first | exact .inl rfl | exact .inr rfl)) (nin rfl)) (dgCons (dgName (pg_name (i := 5) sc_wrong_place.nd rfl (by first | exact .inl rfl | exact .inr rfl)) (nin rfl)) dgNil)))))))
  (dsCons (dsIf (dtNot (dtOf (deCall D_is_from.1 hG (hr.mono (by decide)) (takes_of rfl rfl rfl rfl) (agVal (deVar (pv 1) (nin rfl)) (agVal deInt (agVal (deGlob (v := .int 24) (d := .int 24) rfl G.c_MOST_FAULTS.choose_spec ⟨_, rfl⟩ (fun _ => .int _)) agNil))) rfl))) (dsOne (dsRet (deTup (daCons (deGlob (v := .int 0) (d := .int 0) rfl G.c_FAULTS.choose_spec ⟨_, rfl⟩ (fun _ => .int _)) daNil)))) dsNil)
  (dsCons (dsIf (dtNot (dtOf (deCall D_is_from.1 hG (hr.mono (by decide)) (takes_of rfl rfl rfl rfl) (agVal (deVar (pv 2) (nin rfl)) (agVal deInt (agVal (deGlob (v := .int 16) (d := .int 16) rfl G.c_MOST_REMEDIES.choose_spec ⟨_, rfl⟩ (fun _ => .int _)) agNil))) rfl))) (dsOne (dsRet (deTup (daCons (deGlob (v := .int 1) (d := .int 1) rfl G.c_REMEDIES.choose_spec ⟨_, rfl⟩ (fun _ => .int _)) daNil)))) dsNil)
  (dsOne (dsRet (deOr (deCall D_wrong_cures.1 hG (hr.mono (by decide)) (takes_of rfl rfl rfl rfl) (agVal (deVar (pv 3) (nin rfl)) (agVal (deVar (pv 1) (nin rfl)) (agVal (deVar (pv 2) (nin rfl)) agNil))) rfl) (deOr (deCall D_wrong_signs.1 hG (hr.mono (by decide)) (takes_of rfl rfl rfl rfl) (agVal (deVar (pv 4) (nin rfl)) (agVal (deVar (pv 1) (nin rfl)) agNil)) rfl) (deOne (deCall D_wrong_moves.1 hG (hr.mono (by decide)) (takes_of rfl rfl rfl rfl) (agVal (deVar (pv 5) (nin rfl)) (agVal (deLenV (pv 4) rfl G.n_len) agNil)) rfl)))))))))))
theorem sc_made_rig : FnScope ["thing", "where"] ["thing"] (defScope s_made_rig) := ⟨rfl, rfl, rfl, by decide +kernel, rfl, by decide +kernel, by decide +kernel⟩
theorem ok_made_rig (G : Gs K mg C_BadLot C_BadRig C_BadSetting C_Refused) {f : Addr} {cdv : Value} (D : At K mg "made_rig" s_made_rig ["thing"] f cdv) (D_wrong_place : Good Pg w K mg base T 5 "wrong_place" ["thing"] f_wrong_place) : Good Pg w K mg base T 6 "made_rig" ["thing"] f_made_rig :=
  goodOf (dfnC (N := ["thing", "where"]) (P := []) (body := b_made_rig) D sc_made_rig (by decide) fun A outer s H E hG hr =>
  (dsCons (dsSet (i := 1) (deCall D_wrong_place.1 hG (hr.mono (by decide)) (takes_of rfl rfl rfl rfl) (agVal (deVar (pv 0) (nin rfl)) agNil) rfl) (nin rfl) (fun te h => ps_set (i := 1) sc_made_rig.nd rfl (by first | exact .inl rfl | exact .inr rfl) h))
  (dsCons (dsIf (dtNotN (deVar (pv 1) (nin rfl))) (dsOne (dsRaise rfl G.x_BadRig.choose_spec hr (takes_of rfl rfl rfl rfl) (deVar (pv 1) (nin rfl)) rfl (by decide))) dsNil)
  (dsOne (dsRet (deVar (pv 0) (nin rfl)))))))
theorem sc_check_setting : FnScope ["rig", "g"] ["rig", "g"] (defScope s_check_setting) := ⟨rfl, rfl, rfl, by decide +kernel, rfl, by decide +kernel, by decide +kernel⟩
theorem ok_check_setting (G : Gs K mg C_BadLot C_BadRig C_BadSetting C_Refused) {f : Addr} {cdv : Value} (D : At K mg "check_setting" s_check_setting ["rig", "g"] f cdv) (D_is_index : Good Pg w K mg base T 3 "is_index" ["thing", "many"] f_is_index) : Good Pg w K mg base T 4 "check_setting" ["rig", "g"] f_check_setting :=
  goodOf (dfnC (N := ["rig", "g"]) (P := []) (body := b_check_setting) D sc_check_setting (by decide) fun A outer s H E hG hr =>
  (dsOne (dsIf (dtNot (dtOf (deCall D_is_index.1 hG (hr.mono (by decide)) (takes_of rfl rfl rfl rfl) (agVal (deVar (pv 1) (nin rfl)) (agVal (deB (kLen) (daCons (deIxV (pv 0) (deGlob (v := .int 3) (d := .int 3) rfl G.c_SIGNS.choose_spec ⟨_, rfl⟩ (fun _ => .int _)) (fun _ _ => rfl)) daNil) rfl G.n_len (by decide +kernel)) agNil)) rfl))) (dsOne (dsRaise rfl G.x_BadSetting.choose_spec hr (takes_of rfl rfl rfl rfl) (deVar (pv 1) (nin rfl)) rfl (by decide))) dsNil)))
theorem sc_check_lot : FnScope ["rig", "lot"] ["rig", "lot"] (defScope s_check_lot) := ⟨rfl, rfl, rfl, by decide +kernel, rfl, by decide +kernel, by decide +kernel⟩
theorem ok_check_lot (G : Gs K mg C_BadLot C_BadRig C_BadSetting C_Refused) {f : Addr} {cdv : Value} (D : At K mg "check_lot" s_check_lot ["rig", "lot"] f cdv) (D_is_ascending : Good Pg w K mg base T 2 "is_ascending" ["thing", "many"] f_is_ascending) : Good Pg w K mg base T 3 "check_lot" ["rig", "lot"] f_check_lot :=
  goodOf (dfnC (N := ["rig", "lot"]) (P := []) (body := b_check_lot) D sc_check_lot (by decide) fun A outer s H E hG hr =>
  (dsOne (dsIf (dtNot (dtOf (deCall D_is_ascending.1 hG (hr.mono (by decide)) (takes_of rfl rfl rfl rfl) (agVal (deVar (pv 1) (nin rfl)) (agVal (deIxV (pv 0) (deGlob (v := .int 0) (d := .int 0) rfl G.c_FAULTS.choose_spec ⟨_, rfl⟩ (fun _ => .int _)) (fun _ _ => rfl)) agNil)) rfl))) (dsOne (dsRaise rfl G.x_BadLot.choose_spec hr (takes_of rfl rfl rfl rfl) (deNeg deInt) rfl (by decide))) dsNil)))
theorem sc_check_rig_and_lot : FnScope ["rig", "lot"] ["rig", "lot"] (defScope s_check_rig_and_lot) := ⟨rfl, rfl, rfl, by decide +kernel, rfl, by decide +kernel, by decide +kernel⟩
theorem ok_check_rig_and_lot (G : Gs K mg C_BadLot C_BadRig C_BadSetting C_Refused) {f : Addr} {cdv : Value} (D : At K mg "check_rig_and_lot" s_check_rig_and_lot ["rig", "lot"] f cdv) (D_made_rig : Good Pg w K mg base T 6 "made_rig" ["thing"] f_made_rig) (D_check_lot : Good Pg w K mg base T 3 "check_lot" ["rig", "lot"] f_check_lot) : Good Pg w K mg base T 7 "check_rig_and_lot" ["rig", "lot"] f_check_rig_and_lot :=
  goodOf (dfnC (N := ["rig", "lot"]) (P := []) (body := b_check_rig_and_lot) D sc_check_rig_and_lot (by decide) fun A outer s H E hG hr =>
  (dsCons (dsExpr (deCall D_made_rig.1 hG (hr.mono (by decide)) (takes_of rfl rfl rfl rfl) (agVal (deVar (pv 0) (nin rfl)) agNil) rfl))
  (dsOne (dsExpr (deCall D_check_lot.1 hG (hr.mono (by decide)) (takes_of rfl rfl rfl rfl) (agVal (deVar (pv 0) (nin rfl)) (agVal (deVar (pv 1) (nin rfl)) agNil)) rfl)))))
theorem sc_parts_at : FnScope ["rig", "lot", "g", "row", "shown", "x", "sign"] ["rig", "lot", "g"] (defScope s_parts_at) := ⟨rfl, rfl, rfl, by decide +kernel, rfl, by decide +kernel, by decide +kernel⟩
theorem ok_parts_at (G : Gs K mg C_BadLot C_BadRig C_BadSetting C_Refused) {f : Addr} {cdv : Value} (D : At K mg "parts_at" s_parts_at ["rig", "lot", "g"] f cdv)  : Good Pg w K mg base T 1 "parts_at" ["rig", "lot", "g"] f_parts_at :=
  goodOf (dfnC (N := ["rig", "lot", "g", "row", "shown", "x", "sign"]) (P := []) (body := b_parts_at) D sc_parts_at (by decide) fun A outer s H E hG hr =>
  (dsCons (dsSet (i := 3) (deIx oIx (deIxV (pv 0) (deGlob (v := .int 3) (d := .int 3) rfl G.c_SIGNS.choose_spec ⟨_, rfl⟩ (fun _ => .int _)) (fun _ _ => rfl)) (deVar (pv 2) (nin rfl)) (fun _ _ => rfl)) (nin rfl) (fun te h => ps_set (i := 3) sc_parts_at.nd rfl (by first | exact .inl rfl | exact .inr rfl) h))
  (dsCons (dsSetE (i := 4) dnDictL0 (nin rfl) (fun te h => ps_set (i := 4) sc_parts_at.nd rfl (by first | exact .inl rfl | exact .inr rfl) h))
  (dsCons (dsFor (passes_of rfl) rfl (diSeq (deVar (pv 1) (nin rfl))) (dgName (pg_name (i := 5) sc_parts_at.nd rfl (by first | exact .inl rfl | exact .inr rfl)) (nin rfl)) (dsOne (dsDLApp (by decide) (pv 4) (pv 5) (deIxV (pv 3) (deVar (pv 5) (nin rfl)) (fun _ _ => rfl)))))
  (dsOne (dsRet (deTy kTup (daCons (deOfF (dfComp rfl sc_parts_at.nd (diSeq (deSortD rfl (pv 4) rfl G.n_sorted)) (own := [("sign", 6)]) (by first | (show BlkOk ["rig", "lot", "g", "row", "shown", "x", "sign"] (defScope s_parts_at) _ _; constructor <;> decide +kernel) | exact blkOkR (N := ["rig", "lot", "g", "row", "shown", "x", "sign"]) rfl (by decide +kernel) (by decide +kernel) rfl (by decide +kernel)) (nins rfl) (by decide) (fun _ _ _ _ _ => (dgName (pg_name (i := 6) sc_parts_at.nd rfl (by first | exact .inl rfl | exact .inr rfl)) (nin rfl))) (fun _ _ _ _ _ => dtsNil) (fun _ _ _ _ _ => (deTup (daCons (deVar (pv 6) (nin rfl)) (daCons (deTupDL (Room.u1 hr) (pv 4) (deVar (pv 6) (nin rfl)) (fun _ _ => rfl) rfl G.n_tuple) daNil)))))) daNil) rfl G.n_tuple (by decide +kernel))))))))
theorem sc_has_parts : FnScope ["rig", "lot", "g"] ["rig", "lot", "g"] (defScope s_has_parts) := ⟨rfl, rfl, rfl, by decide +kernel, rfl, by decide +kernel, by decide +kernel⟩
theorem ok_has_parts (G : Gs K mg C_BadLot C_BadRig C_BadSetting C_Refused) {f : Addr} {cdv : Value} (D : At K mg "has_parts" s_has_parts ["rig", "lot", "g"] f cdv) (D_parts_at : Good Pg w K mg base T 1 "parts_at" ["rig", "lot", "g"] f_parts_at) : Good Pg w K mg base T 2 "has_parts" ["rig", "lot", "g"] f_has_parts :=
  goodOf (dfnC (N := ["rig", "lot", "g"]) (P := []) (body := b_has_parts) D sc_has_parts (by decide) fun A outer s H E hG hr =>
  (dsOne (dsRet (deCmp oGt (deB (kLen) (daCons (deCall D_parts_at.1 hG (hr.mono (by decide)) (takes_of rfl rfl rfl rfl) (agVal (deVar (pv 0) (nin rfl)) (agVal (deVar (pv 1) (nin rfl)) (agVal (deVar (pv 2) (nin rfl)) agNil))) rfl) daNil) rfl G.n_len (by decide +kernel)) deInt (by first | rfl | exact nomark _)))))
theorem sc_one_sign : FnScope ["rig", "lot", "g"] ["rig", "lot", "g"] (defScope s_one_sign) := ⟨rfl, rfl, rfl, by decide +kernel, rfl, by decide +kernel, by decide +kernel⟩
theorem ok_one_sign (G : Gs K mg C_BadLot C_BadRig C_BadSetting C_Refused) {f : Addr} {cdv : Value} (D : At K mg "one_sign" s_one_sign ["rig", "lot", "g"] f cdv) (D_check_rig_and_lot : Good Pg w K mg base T 7 "check_rig_and_lot" ["rig", "lot"] f_check_rig_and_lot) (D_check_setting : Good Pg w K mg base T 4 "check_setting" ["rig", "g"] f_check_setting) (D_has_parts : Good Pg w K mg base T 2 "has_parts" ["rig", "lot", "g"] f_has_parts) : Good Pg w K mg base T 8 "one_sign" ["rig", "lot", "g"] f_one_sign :=
  goodOf (dfnC (N := ["rig", "lot", "g"]) (P := []) (body := b_one_sign) D sc_one_sign (by decide) fun A outer s H E hG hr =>
  (dsCons (dsExpr (deCall D_check_rig_and_lot.1 hG (hr.mono (by decide)) (takes_of rfl rfl rfl rfl) (agVal (deVar (pv 0) (nin rfl)) (agVal (deVar (pv 1) (nin rfl)) agNil)) rfl))
  (dsCons (dsExpr (deCall D_check_setting.1 hG (hr.mono (by decide)) (takes_of rfl rfl rfl rfl) (agVal (deVar (pv 0) (nin rfl)) (agVal (deVar (pv 2) (nin rfl)) agNil)) rfl))
  (dsOne (dsRet (deNot (deCall D_has_parts.1 hG (hr.mono (by decide)) (takes_of rfl rfl rfl rfl) (agVal (deVar (pv 0) (nin rfl)) (agVal (deVar (pv 1) (nin rfl)) (agVal (deVar (pv 2) (nin rfl)) agNil))) rfl)))))))
theorem sc_parted : FnScope ["rig", "lot", "g"] ["rig", "lot", "g"] (defScope s_parted) := ⟨rfl, rfl, rfl, by decide +kernel, rfl, by decide +kernel, by decide +kernel⟩
theorem ok_parted (G : Gs K mg C_BadLot C_BadRig C_BadSetting C_Refused) {f : Addr} {cdv : Value} (D : At K mg "parted" s_parted ["rig", "lot", "g"] f cdv) (D_check_rig_and_lot : Good Pg w K mg base T 7 "check_rig_and_lot" ["rig", "lot"] f_check_rig_and_lot) (D_check_setting : Good Pg w K mg base T 4 "check_setting" ["rig", "g"] f_check_setting) (D_parts_at : Good Pg w K mg base T 1 "parts_at" ["rig", "lot", "g"] f_parts_at) : Good Pg w K mg base T 8 "parted" ["rig", "lot", "g"] f_parted :=
  goodOf (dfnC (N := ["rig", "lot", "g"]) (P := []) (body := b_parted) D sc_parted (by decide) fun A outer s H E hG hr =>
  (dsCons (dsExpr (deCall D_check_rig_and_lot.1 hG (hr.mono (by decide)) (takes_of rfl rfl rfl rfl) (agVal (deVar (pv 0) (nin rfl)) (agVal (deVar (pv 1) (nin rfl)) agNil)) rfl))
  (dsCons (dsExpr (deCall D_check_setting.1 hG (hr.mono (by decide)) (takes_of rfl rfl rfl rfl) (agVal (deVar (pv 0) (nin rfl)) (agVal (deVar (pv 2) (nin rfl)) agNil)) rfl))
  (dsOne (dsRet (deCall D_parts_at.1 hG (hr.mono (by decide)) (takes_of rfl rfl rfl rfl) (agVal (deVar (pv 0) (nin rfl)) (agVal (deVar (pv 1) (nin rfl)) (agVal (deVar (pv 2) (nin rfl)) agNil))) rfl))))))
theorem sc_law_pool : FnScope ["_law_script", "_law_k", "_law_cell", "_law_big", "_law_mixed"] ["_law_script", "_law_k"] (defScope s_law_pool) := ⟨rfl, rfl, rfl, by decide +kernel, rfl, by decide +kernel, by decide +kernel⟩
theorem ok_law_pool (G : Gs K mg C_BadLot C_BadRig C_BadSetting C_Refused) {f : Addr} {cdv : Value} (D : At K mg "_law_pool" s_law_pool ["_law_script", "_law_k"] f cdv)  : Good Pg w K mg base T 1 "_law_pool" ["_law_script", "_law_k"] f_law_pool :=
  goodOf (dfnC (N := ["_law_script", "_law_k", "_law_cell", "_law_big", "_law_mixed"]) (P := []) (body := b_law_pool) D sc_law_pool (by decide) fun A outer s H E hG hr =>
  (dsCons (dsSet (i := 2) deInt (nin rfl) (fun te h => ps_set (i := 2) sc_law_pool.nd rfl (by first | exact .inl rfl | exact .inr rfl) h))
  (dsCons (dsIf (dtCmp (oLt (Room.u64 hr)) (deVar (pv 1) (nin rfl)) (deLenV (pv 0) rfl G.n_len) (by first | rfl | exact nomark _)) (dsOne (dsSet (i := 2) (deIxV (pv 0) (deVar (pv 1) (nin rfl)) (fun _ _ => rfl)) (nin rfl) (fun te h => ps_set (i := 2) sc_law_pool.nd rfl (by first | exact .inl rfl | exact .inr rfl) h))) (dsOne (dsIf (dtCmp (oNe (Room.u64 hr)) (deVar (pv 0) (nin rfl)) (deLst daNil) (by first | rfl | exact nomark _)) (dsOne (dsSet (i := 2) (deIxV (pv 0) deInt (fun _ _ => rfl)) (nin rfl) (fun te h => ps_set (i := 2) sc_law_pool.nd rfl (by first | exact .inl rfl | exact .inr rfl) h))) dsNil)))
  (dsCons (dsSet (i := 3) (deB (kMax rfl) (daCons (deTy kInt (daCons (deVar (pv 2) (nin rfl)) daNil) rfl G.n_int (by decide +kernel)) (daCons (deTy kInt (daCons (deOp oSub (deNeg deInt) (deVar (pv 2) (nin rfl))) daNil) rfl G.n_int (by decide +kernel)) daNil)) rfl G.n_max (by decide +kernel)) (nin rfl) (fun te h => ps_set (i := 3) sc_law_pool.nd rfl (by first | exact .inl rfl | exact .inr rfl) h))
  (dsCons (dsSet (i := 4) (deOp oMod (deTy kInt (daCons (deOp oMul (deOp oAdd (deOp oAdd (deOp oAdd (deOp oMod (deTy kInt (daCons (deVar (pv 3) (nin rfl)) daNil) rfl G.n_int (by decide +kernel)) deInt) (deOp oMul (deOp oMul deInt (deVar (pv 1) (nin rfl))) (deVar (pv 1) (nin rfl)))) (deOp oMul deInt (deVar (pv 1) (nin rfl)))) deInt) deInt) daNil) rfl G.n_int (by decide +kernel)) deInt) (nin rfl) (fun te h => ps_set (i := 4) sc_law_pool.nd rfl (by first | exact .inl rfl | exact .inr rfl) h))
  (dsOne (dsRetF (dfLst (daCons (deOp oMul (deVar (pv 3) (nin rfl)) (deTy kInt (daCons (deAnd (deCmp oGe (deVar (pv 3) (nin rfl)) (deOp oPow deInt deInt) (by first | rfl | exact nomark _)) (deOne (deCmp (oLt (Room.u64 hr)) (deVar (pv 1) (nin rfl)) (deLenV (pv 0) rfl G.n_len) (by first | rfl | exact nomark _)))) daNil) rfl G.n_int (by decide +kernel))) (daCons (deVar (pv 4) (nin rfl)) daNil))))))))))
theorem sc_law_take : FnScope ["_law_source", "_law_top", "_law_drawn"] ["_law_source", "_law_top"] (defScope s_law_take) := ⟨rfl, rfl, rfl, by decide +kernel, rfl, by decide +kernel, by decide +kernel⟩
theorem ok_law_take (G : Gs K mg C_BadLot C_BadRig C_BadSetting C_Refused) {f : Addr} {cdv : Value} (D : At K mg "_law_take" s_law_take ["_law_source", "_law_top"] f cdv)  : Good Pg w K mg base T 1 "_law_take" ["_law_source", "_law_top"] f_law_take :=
  goodOf (dfnC (N := ["_law_source", "_law_top", "_law_drawn"]) (P := [0]) (body := b_law_take) D sc_law_take (by decide) fun A outer s H E hG hr =>
  (dsCons (dsIf (dtCmp oGt (deIxV (pv 0) deInt (fun _ _ => rfl)) deInt (by first | rfl | exact nomark _)) (dsCons (dsSet (i := 2) (deOp oMod (deTy kInt (daCons (deIxV (pv 0) deInt (fun _ _ => rfl)) daNil) rfl G.n_int (by decide +kernel)) (deVar (pv 1) (nin rfl))) (nin rfl) (fun te h => ps_set (i := 2) sc_law_take.nd rfl (by first | exact .inl rfl | exact .inr rfl) h))
  (dsCons (dsStore (pv 0) deInt (deOp oDiv (deIxV (pv 0) deInt (fun _ _ => rfl)) (deVar (pv 1) (nin rfl))))
  (dsOne (dsRet (deVar (pv 2) (nin rfl)))))) dsNil)
  (dsCons (dsStore (pv 0) deInt (deOp oMod (deTy kInt (daCons (deOp oAdd (deOp oMul (deIxV (pv 0) deInt (fun _ _ => rfl)) deInt) deInt) daNil) rfl G.n_int (by decide +kernel)) deInt))
  (dsOne (dsRet (deOp oMod (deTy kInt (daCons (deOp oDiv (deOp oMod (deTy kInt (daCons (deOp oMul (deIxV (pv 0) deInt (fun _ _ => rfl)) (deIxV (pv 0) deInt (fun _ _ => rfl))) daNil) rfl G.n_int (by decide +kernel)) deInt) deInt) daNil) rfl G.n_int (by decide +kernel)) (deVar (pv 1) (nin rfl))))))))
theorem sc_law_one : FnScope ["_law_source", "_law_things"] ["_law_source", "_law_things"] (defScope s_law_one) := ⟨rfl, rfl, rfl, by decide +kernel, rfl, by decide +kernel, by decide +kernel⟩
theorem ok_law_one (G : Gs K mg C_BadLot C_BadRig C_BadSetting C_Refused) {f : Addr} {cdv : Value} (D : At K mg "_law_one" s_law_one ["_law_source", "_law_things"] f cdv) (D_law_take : Good Pg w K mg base T 1 "_law_take" ["_law_source", "_law_top"] f_law_take) : Good Pg w K mg base T 2 "_law_one" ["_law_source", "_law_things"] f_law_one :=
  goodOf (dfnC (N := ["_law_source", "_law_things"]) (P := [0]) (body := b_law_one) D sc_law_one (by decide) fun A outer s H E hG hr =>
  (dsOne (dsRet (deIxV (pv 1) (deCall D_law_take.1 hG (hr.mono (by decide)) (takes_of rfl rfl rfl rfl) (agHot (pv 0) (agVal (deLenV (pv 1) rfl G.n_len) agNil)) rfl) (fun _ _ => rfl)))))
theorem sc_law_some : FnScope ["_law_source", "_law_things", "_law_thing"] ["_law_source", "_law_things"] (defScope s_law_some) := ⟨rfl, rfl, rfl, by decide +kernel, rfl, by decide +kernel, by decide +kernel⟩
theorem ok_law_some (G : Gs K mg C_BadLot C_BadRig C_BadSetting C_Refused) {f : Addr} {cdv : Value} (D : At K mg "_law_some" s_law_some ["_law_source", "_law_things"] f cdv) (D_law_take : Good Pg w K mg base T 1 "_law_take" ["_law_source", "_law_top"] f_law_take) : Good Pg w K mg base T 2 "_law_some" ["_law_source", "_law_things"] f_law_some :=
  goodOf (dfnC (N := ["_law_source", "_law_things", "_law_thing"]) (P := [0]) (body := b_law_some) D sc_law_some (by decide) fun A outer s H E hG hr =>
  (dsOne (dsRet (deOfF (dfComp rfl sc_law_some.nd (diSeq (deVar (pv 1) (nin rfl))) (own := [("_law_thing", 2)]) (by first | (show BlkOk ["_law_source", "_law_things", "_law_thing"] (defScope s_law_some) _ _; constructor <;> decide +kernel) | exact blkOkR (N := ["_law_source", "_law_things", "_law_thing"]) rfl (by decide +kernel) (by decide +kernel) rfl (by decide +kernel)) (nins rfl) (by decide) (fun _ _ _ _ _ => (dgName (pg_name (i := 2) sc_law_some.nd rfl (by first | exact .inl rfl | exact .inr rfl)) (nin rfl))) (fun _ _ _ _ _ => (dtsOne (dtCmp (oEq (Room.u64 hr)) (deCall D_law_take.1 hG (hr.mono (by decide)) takes_none5 (agHot (pv 0) (agVal deInt agNil)) rfl) deInt (by first | rfl | exact nomark _)))) (fun _ _ _ _ _ => (deVar (pv 2) (nin rfl))))))))
theorem sc_law_joined_moves : FnScope ["_law_source", "_law_m", "_law_found", "_law_h", "_law_g", "_law_turn"] ["_law_source", "_law_m"] (defScope s_law_joined_moves) := ⟨rfl, rfl, rfl, by decide +kernel, rfl, by decide +kernel, by decide +kernel⟩
theorem ok_law_joined_moves (G : Gs K mg C_BadLot C_BadRig C_BadSetting C_Refused) {f : Addr} {cdv : Value} (D : At K mg "_law_joined_moves" s_law_joined_moves ["_law_source", "_law_m"] f cdv) (D_law_take : Good Pg w K mg base T 1 "_law_take" ["_law_source", "_law_top"] f_law_take) : Good Pg w K mg base T 2 "_law_joined_moves" ["_law_source", "_law_m"] f_law_joined_moves :=
  goodOf (dfnC (N := ["_law_source", "_law_m", "_law_found", "_law_h", "_law_g", "_law_turn"]) (P := [0]) (body := b_law_joined_moves) D sc_law_joined_moves (by decide) fun A outer s H E hG hr =>
  (dsCons (dsSetHot (i := 2) (dfLst daNil) (nin rfl) (fun te h => ps_set (i := 2) sc_law_joined_moves.nd rfl (by first | exact .inl rfl | exact .inr rfl) h))
  (dsCons (dsFor (passes_of rfl) rfl (diRng2 rfl G.n_range (daCons deInt (daCons (deVar (pv 1) (nin rfl)) daNil))) (dgName (pg_name (i := 3) sc_law_joined_moves.nd rfl (by first | exact .inl rfl | exact .inr rfl)) (nin rfl)) (dsCons (dsSet (i := 4) (deCall D_law_take.1 hG (hr.mono (by decide)) (takes_of rfl rfl rfl rfl) (agHot (pv 0) (agVal (deVar (pv 3) (nin rfl)) agNil)) rfl) (nin rfl) (fun te h => ps_set (i := 4) sc_law_joined_moves.nd rfl (by first | exact .inl rfl | exact .inr rfl) h))
  (dsOne (dsIf (dtCmp oGt (deCall D_law_take.1 hG (hr.mono (by decide)) (takes_of rfl rfl rfl rfl) (agHot (pv 0) (agVal deInt agNil)) rfl) deInt (by first | rfl | exact nomark _)) (dsOne (dsApp (deTup (daCons (deVar (pv 4) (nin rfl)) (daCons (deVar (pv 3) (nin rfl)) daNil))) (fun t h => pe_bm PySem.F.plainAttrs_list PySem.F.slot_list_append PySem.F.type_list_append mt_append (pv 2) h))) dsNil))))
  (dsCons (dsFor (passes_of rfl) rfl (diRng1 rfl G.n_range (daCons (deCall D_law_take.1 hG (hr.mono (by decide)) (takes_of rfl rfl rfl rfl) (agHot (pv 0) (agVal (deVar (pv 1) (nin rfl)) agNil)) rfl) daNil)) (dgName (pg_name (i := 5) sc_law_joined_moves.nd rfl (by first | exact .inl rfl | exact .inr rfl)) (nin rfl)) (dsCons (dsPar (i := 4) (j := 3) rfl sc_law_joined_moves.nd rfl rfl (by decide) rfl rfl (nin rfl) (nin rfl) (daCons (deCall D_law_take.1 hG (hr.mono (by decide)) (takes_of rfl rfl rfl rfl) (agHot (pv 0) (agVal (deVar (pv 1) (nin rfl)) agNil)) rfl) (daCons (deCall D_law_take.1 hG (hr.mono (by decide)) (takes_of rfl rfl rfl rfl) (agHot (pv 0) (agVal (deVar (pv 1) (nin rfl)) agNil)) rfl) daNil)) rfl)
  (dsOne (dsIf (dtW (dwAnd (dtCmp (oNe (Room.u64 hr)) (deVar (pv 4) (nin rfl)) (deVar (pv 3) (nin rfl)) (by first | rfl | exact nomark _)) (dwAnd1 (dtCmpR (oNotIn (Room.u65 hr)) (deTup (daCons (deB (kMin rfl) (daCons (deVar (pv 4) (nin rfl)) (daCons (deVar (pv 3) (nin rfl)) daNil)) rfl G.n_min (by decide +kernel)) (daCons (deB (kMax rfl) (daCons (deVar (pv 4) (nin rfl)) (daCons (deVar (pv 3) (nin rfl)) daNil)) rfl G.n_max (by decide +kernel)) daNil))) (pv 2))))) (dsOne (dsApp (deTup (daCons (deB (kMin rfl) (daCons (deVar (pv 4) (nin rfl)) (daCons (deVar (pv 3) (nin rfl)) daNil)) rfl G.n_min (by decide +kernel)) (daCons (deB (kMax rfl) (daCons (deVar (pv 4) (nin rfl)) (daCons (deVar (pv 3) (nin rfl)) daNil)) rfl G.n_max (by decide +kernel)) daNil))) (fun t h => pe_bm PySem.F.plainAttrs_list PySem.F.slot_list_append PySem.F.type_list_append mt_append (pv 2) h))) dsNil))))
  (dsOne (dsRet (deTy kTup (daCons (deB kSort (daCons (deVar (pv 2) (nin rfl)) daNil) rfl G.n_sorted (by decide +kernel)) daNil) rfl G.n_tuple (by decide +kernel))))))))
theorem sc_law_signs : FnScope ["_law_source", "_law_n", "_law_m", "_law_found", "_law_g", "_law_kind", "_law_odd", "_law_low", "_law_x"] ["_law_source", "_law_n", "_law_m"] (defScope s_law_signs) := ⟨rfl, rfl, rfl, by decide +kernel, rfl, by decide +kernel, by decide +kernel⟩
theorem ok_law_signs (G : Gs K mg C_BadLot C_BadRig C_BadSetting C_Refused) {f : Addr} {cdv : Value} (D : At K mg "_law_signs" s_law_signs ["_law_source", "_law_n", "_law_m"] f cdv) (D_law_take : Good Pg w K mg base T 1 "_law_take" ["_law_source", "_law_top"] f_law_take) : Good Pg w K mg base T 2 "_law_signs" ["_law_source", "_law_n", "_law_m"] f_law_signs :=
  goodOf (dfnC (N := ["_law_source", "_law_n", "_law_m", "_law_found", "_law_g", "_law_kind", "_law_odd", "_law_low", "_law_x"]) (P := [0]) (body := b_law_signs) D sc_law_signs (by decide) fun A outer s H E hG hr =>
  (dsCons (dsSetHot (i := 3) (dfLst daNil) (nin rfl) (fun te h => ps_set (i := 3) sc_law_signs.nd rfl (by first | exact .inl rfl | exact .inr rfl) h))
  (dsCons (dsFor (passes_of rfl) rfl (diRng1 rfl G.n_range (daCons (deVar (pv 2) (nin rfl)) daNil)) (dgName (pg_name (i := 4) sc_law_signs.nd rfl (by first | exact .inl rfl | exact .inr rfl)) (nin rfl)) (dsCons (dsSet (i := 5) (deCall D_law_take.1 hG (hr.mono (by decide)) (takes_of rfl rfl rfl rfl) (agHot (pv 0) (agVal deInt agNil)) rfl) (nin rfl) (fun te h => ps_set (i := 5) sc_law_signs.nd rfl (by first | exact .inl rfl | exact .inr rfl) h))
  (dsCons (dsAsg (deTup (daCons (deCall D_law_take.1 hG (hr.mono (by decide)) (takes_of rfl rfl rfl rfl) (agHot (pv 0) (agVal (deVar (pv 1) (nin rfl)) agNil)) rfl) (daCons (deCall D_law_take.1 hG (hr.mono (by decide)) (takes_of rfl rfl rfl rfl) (agHot (pv 0) (agVal deInt agNil)) rfl) daNil))) (dgTup rfl (dgCons (dgName (pg_name (i := 6) sc_law_signs.nd rfl (by first | exact .inl rfl | exact .inr rfl)) (nin rfl)) (dgCons (dgName (pg_name (i := 7) sc_law_signs.nd rfl (by first | exact .inl rfl | exact .inr rfl)) (nin rfl)) dgNil))))
  (dsOne (dsIf (dtW (dwOr (dtCmp (oEq (Room.u64 hr)) (deVar (pv 5) (nin rfl)) deInt (by first | rfl | exact nomark _)) (dwOr1 (dtW (dwAnd (dtCmp (oEq (Room.u64 hr)) (deVar (pv 4) (nin rfl)) deInt (by first | rfl | exact nomark _)) (dwAnd1 (dtCmp (oLt (Room.u64 hr)) (deVar (pv 5) (nin rfl)) deInt (by first | rfl | exact nomark _)))))))) (dsOne (dsApp (deOp oMul (deTup (daCons (deVar (pv 7) (nin rfl)) daNil)) (deVar (pv 1) (nin rfl))) (fun t h => pe_bm PySem.F.plainAttrs_list PySem.F.slot_list_append PySem.F.type_list_append mt_append (pv 3) h))) (dsOne (dsIf (dtCmp (oLt (Room.u64 hr)) (deVar (pv 5) (nin rfl)) deInt (by first | rfl | exact nomark _)) (dsOne (dsApp (deTy kTup (daCons (deOfF (dfComp rfl sc_law_signs.nd (diRng1 rfl G.n_range (daCons (deVar (pv 1) (nin rfl)) daNil)) (own := [("_law_x", 8)]) (by first | (show BlkOk ["_law_source", "_law_n", "_law_m", "_law_found", "_law_g", "_law_kind", "_law_odd", "_law_low", "_law_x"] (defScope s_law_signs) _ _; constructor <;> decide +kernel) | exact blkOkR (N := ["_law_source", "_law_n", "_law_m", "_law_found", "_law_g", "_law_kind", "_law_odd", "_law_low", "_law_x"]) rfl (by decide +kernel) (by decide +kernel) rfl (by decide +kernel)) (nins rfl) (by decide) (fun _ _ _ _ _ => (dgName (pg_name (i := 8) sc_law_signs.nd rfl (by first | exact .inl rfl | exact .inr rfl)) (nin rfl))) (fun _ _ _ _ _ => dtsNil) (fun _ _ _ _ _ => (deOp oAdd (deVar (pv 7) (nin rfl)) (deTy kInt (daCons (deCmp (oEq (Room.u64 hr)) (deVar (pv 8) (nin rfl)) (deVar (pv 6) (nin rfl)) (by first | rfl | exact nomark _)) daNil) rfl G.n_int (by decide +kernel)))))) daNil) rfl G.n_tuple (by decide +kernel)) (fun t h => pe_bm PySem.F.plainAttrs_list PySem.F.slot_list_append PySem.F.type_list_append mt_append (pv 3) h))) (dsOne (dsApp (deTy kTup (daCons (deOfF (dfComp rfl sc_law_signs.nd (diRng1 rfl G.n_range (daCons (deVar (pv 1) (nin rfl)) daNil)) (own := [("_law_x", 8)]) (by first | (show BlkOk ["_law_source", "_law_n", "_law_m", "_law_found", "_law_g", "_law_kind", "_law_odd", "_law_low", "_law_x"] (defScope s_law_signs) _ _; constructor <;> decide +kernel) | exact blkOkR (N := ["_law_source", "_law_n", "_law_m", "_law_found", "_law_g", "_law_kind", "_law_odd", "_law_low", "_law_x"]) rfl (by decide +kernel) (by decide +kernel) rfl (by decide +kernel)) (nins rfl) (by decide) (fun _ _ _ _ _ => (dgName (pg_name (i := 8) sc_law_signs.nd rfl (by first | exact .inl rfl | exact .inr rfl)) (nin rfl))) (fun _ _ _ _ _ => dtsNil) (fun _ _ _ _ _ => (deOp oAdd (deVar (pv 7) (nin rfl)) (deCall D_law_take.1 hG (hr.mono (by decide)) takes_none5 (agHot (pv 0) (agVal (deOp oSub (deVar (pv 5) (nin rfl)) deInt) agNil)) rfl))))) daNil) rfl G.n_tuple (by decide +kernel)) (fun t h => pe_bm PySem.F.plainAttrs_list PySem.F.slot_list_append PySem.F.type_list_append mt_append (pv 3) h))))))))))
  (dsOne (dsRet (deTy kTup (daCons (deVar (pv 3) (nin rfl)) daNil) rfl G.n_tuple (by decide +kernel)))))))
theorem sc_law_cures : FnScope ["_law_source", "_law_n", "_law_q", "_law_found", "_law_x", "_law_some_here", "_law_r"] ["_law_source", "_law_n", "_law_q"] (defScope s_law_cures) := ⟨rfl, rfl, rfl, by decide +kernel, rfl, by decide +kernel, by decide +kernel⟩
theorem ok_law_cures (G : Gs K mg C_BadLot C_BadRig C_BadSetting C_Refused) {f : Addr} {cdv : Value} (D : At K mg "_law_cures" s_law_cures ["_law_source", "_law_n", "_law_q"] f cdv) (D_law_take : Good Pg w K mg base T 1 "_law_take" ["_law_source", "_law_top"] f_law_take) : Good Pg w K mg base T 2 "_law_cures" ["_law_source", "_law_n", "_law_q"] f_law_cures :=
  goodOf (dfnC (N := ["_law_source", "_law_n", "_law_q", "_law_found", "_law_x", "_law_some_here", "_law_r"]) (P := [0]) (body := b_law_cures) D sc_law_cures (by decide) fun A outer s H E hG hr =>
  (dsCons (dsSetHot (i := 3) (dfLst daNil) (nin rfl) (fun te h => ps_set (i := 3) sc_law_cures.nd rfl (by first | exact .inl rfl | exact .inr rfl) h))
  (dsCons (dsFor (passes_of rfl) rfl (diRng1 rfl G.n_range (daCons (deVar (pv 1) (nin rfl)) daNil)) (dgName (pg_name (i := 4) sc_law_cures.nd rfl (by first | exact .inl rfl | exact .inr rfl)) (nin rfl)) (dsCons (dsSetHot (i := 5) (dfIf (dtCmp oGt (deCall D_law_take.1 hG (hr.mono (by decide)) (takes_of rfl rfl rfl rfl) (agHot (pv 0) (agVal deInt agNil)) rfl) deInt (by first | rfl | exact nomark _)) (dfLst (daCons (deOp oMod (deTy kInt (daCons (deVar (pv 4) (nin rfl)) daNil) rfl G.n_int (by decide +kernel)) (deVar (pv 2) (nin rfl))) daNil)) (dfLst (daCons (deCall D_law_take.1 hG (hr.mono (by decide)) (takes_of rfl rfl rfl rfl) (agHot (pv 0) (agVal (deVar (pv 2) (nin rfl)) agNil)) rfl) daNil))) (nin rfl) (fun te h => ps_set (i := 5) sc_law_cures.nd rfl (by first | exact .inl rfl | exact .inr rfl) h))
  (dsCons (dsIf (dtCmp (oEq (Room.u64 hr)) (deCall D_law_take.1 hG (hr.mono (by decide)) (takes_of rfl rfl rfl rfl) (agHot (pv 0) (agVal deInt agNil)) rfl) deInt (by first | rfl | exact nomark _)) (dsOne (dsApp (deCall D_law_take.1 hG (hr.mono (by decide)) (takes_of rfl rfl rfl rfl) (agHot (pv 0) (agVal (deVar (pv 2) (nin rfl)) agNil)) rfl) (fun t h => pe_bm PySem.F.plainAttrs_list PySem.F.slot_list_append PySem.F.type_list_append mt_append (pv 5) h))) dsNil)
  (dsOne (dsApp (deTy kTup (daCons (deOfF (dfComp rfl sc_law_cures.nd (diRng1 rfl G.n_range (daCons (deVar (pv 2) (nin rfl)) daNil)) (own := [("_law_r", 6)]) (by first | (show BlkOk ["_law_source", "_law_n", "_law_q", "_law_found", "_law_x", "_law_some_here", "_law_r"] (defScope s_law_cures) _ _; constructor <;> decide +kernel) | exact blkOkR (N := ["_law_source", "_law_n", "_law_q", "_law_found", "_law_x", "_law_some_here", "_law_r"]) rfl (by decide +kernel) (by decide +kernel) rfl (by decide +kernel)) (nins rfl) (by decide) (fun _ _ _ _ _ => (dgName (pg_name (i := 6) sc_law_cures.nd rfl (by first | exact .inl rfl | exact .inr rfl)) (nin rfl))) (fun _ _ _ _ _ => (dtsOne (dtCmpR (oIn (Room.u65 hr)) (deVar (pv 6) (nin rfl)) (pv 5)))) (fun _ _ _ _ _ => (deVar (pv 6) (nin rfl))))) daNil) rfl G.n_tuple (by decide +kernel)) (fun t h => pe_bm PySem.F.plainAttrs_list PySem.F.slot_list_append PySem.F.type_list_append mt_append (pv 3) h))))))
  (dsOne (dsRet (deTy kTup (daCons (deVar (pv 3) (nin rfl)) daNil) rfl G.n_tuple (by decide +kernel)))))))
theorem sc_law_rig : FnScope ["_law_source", "_law_faults", "_law_settings", "_law_n", "_law_m", "_law_q"] ["_law_source", "_law_faults", "_law_settings"] (defScope s_law_rig) := ⟨rfl, rfl, rfl, by decide +kernel, rfl, by decide +kernel, by decide +kernel⟩
theorem ok_law_rig (G : Gs K mg C_BadLot C_BadRig C_BadSetting C_Refused) {f : Addr} {cdv : Value} (D : At K mg "_law_rig" s_law_rig ["_law_source", "_law_faults", "_law_settings"] f cdv) (D_law_take : Good Pg w K mg base T 1 "_law_take" ["_law_source", "_law_top"] f_law_take) (D_law_joined_moves : Good Pg w K mg base T 2 "_law_joined_moves" ["_law_source", "_law_m"] f_law_joined_moves) (D_law_signs : Good Pg w K mg base T 2 "_law_signs" ["_law_source", "_law_n", "_law_m"] f_law_signs) (D_law_cures : Good Pg w K mg base T 2 "_law_cures" ["_law_source", "_law_n", "_law_q"] f_law_cures) : Good Pg w K mg base T 3 "_law_rig" ["_law_source", "_law_faults", "_law_settings"] f_law_rig :=
  goodOf (dfnC (N := ["_law_source", "_law_faults", "_law_settings", "_law_n", "_law_m", "_law_q"]) (P := [0]) (body := b_law_rig) D sc_law_rig (by decide) fun A outer s H E hG hr =>
  (dsCons (dsPar (i := 3) (j := 4) rfl sc_law_rig.nd rfl rfl (by decide) rfl rfl (nin rfl) (nin rfl) (daCons (deOp oAdd deInt (deCall D_law_take.1 hG (hr.mono (by decide)) (takes_of rfl rfl rfl rfl) (agHot (pv 0) (agVal (deOp oSub (deVar (pv 1) (nin rfl)) deInt) agNil)) rfl)) (daCons (deOp oAdd deInt (deCall D_law_take.1 hG (hr.mono (by decide)) (takes_of rfl rfl rfl rfl) (agHot (pv 0) (agVal (deOp oSub (deVar (pv 2) (nin rfl)) deInt) agNil)) rfl)) daNil)) rfl)
  (dsCons (dsSet (i := 5) (deOp oAdd deInt (deCall D_law_take.1 hG (hr.mono (by decide)) (takes_of rfl rfl rfl rfl) (agHot (pv 0) (agVal (deB (kMax rfl) (daCons deInt (daCons (deB (kMin rfl) (daCons deInt (daCons (deOp oSub (deVar (pv 3) (nin rfl)) deInt) daNil)) rfl G.n_min (by decide +kernel)) daNil)) rfl G.n_max (by decide +kernel)) agNil)) rfl)) (nin rfl) (fun te h => ps_set (i := 5) sc_law_rig.nd rfl (by first | exact .inl rfl | exact .inr rfl) h))
  (dsOne (dsRet (deTup (daCons (deVar (pv 3) (nin rfl)) (daCons (deVar (pv 5) (nin rfl)) (daCons (deCall D_law_cures.1 hG (hr.mono (by decide)) (takes_of rfl rfl rfl rfl) (agHot (pv 0) (agVal (deVar (pv 3) (nin rfl)) (agVal (deVar (pv 5) (nin rfl)) agNil))) rfl) (daCons (deCall D_law_signs.1 hG (hr.mono (by decide)) (takes_of rfl rfl rfl rfl) (agHot (pv 0) (agVal (deVar (pv 3) (nin rfl)) (agVal (deVar (pv 4) (nin rfl)) agNil))) rfl) (daCons (deCall D_law_joined_moves.1 hG (hr.mono (by decide)) (takes_of rfl rfl rfl rfl) (agHot (pv 0) (agVal (deVar (pv 4) (nin rfl)) agNil)) rfl) daNil)))))))))))
theorem sc_law_rig_of_all_sizes : FnScope ["_law_source", "_law_rig_here", "_law_n", "_law_m"] ["_law_source"] (defScope s_law_rig_of_all_sizes) := ⟨rfl, rfl, rfl, by decide +kernel, rfl, by decide +kernel, by decide +kernel⟩
theorem ok_law_rig_of_all_sizes (G : Gs K mg C_BadLot C_BadRig C_BadSetting C_Refused) {f : Addr} {cdv : Value} (D : At K mg "_law_rig_of_all_sizes" s_law_rig_of_all_sizes ["_law_source"] f cdv) (D_law_rig : Good Pg w K mg base T 3 "_law_rig" ["_law_source", "_law_faults", "_law_settings"] f_law_rig) (D_law_take : Good Pg w K mg base T 1 "_law_take" ["_law_source", "_law_top"] f_law_take) (D_law_one : Good Pg w K mg base T 2 "_law_one" ["_law_source", "_law_things"] f_law_one) (D_law_signs : Good Pg w K mg base T 2 "_law_signs" ["_law_source", "_law_n", "_law_m"] f_law_signs) (D_law_cures : Good Pg w K mg base T 2 "_law_cures" ["_law_source", "_law_n", "_law_q"] f_law_cures) : Good Pg w K mg base T 4 "_law_rig_of_all_sizes" ["_law_source"] f_law_rig_of_all_sizes :=
  goodOf (dfnC (N := ["_law_source", "_law_rig_here", "_law_n", "_law_m"]) (P := [0]) (body := b_law_rig_of_all_sizes) D sc_law_rig_of_all_sizes (by decide) fun A outer s H E hG hr =>
  (dsCons (dsSet (i := 1) (deCall D_law_rig.1 hG (hr.mono (by decide)) (takes_of rfl rfl rfl rfl) (agHot (pv 0) (agVal deInt (agVal deInt agNil))) rfl) (nin rfl) (fun te h => ps_set (i := 1) sc_law_rig_of_all_sizes.nd rfl (by first | exact .inl rfl | exact .inr rfl) h))
  (dsCons (dsIf (dtCmp oGt (deCall D_law_take.1 hG (hr.mono (by decide)) (takes_of rfl rfl rfl rfl) (agHot (pv 0) (agVal deInt agNil)) rfl) deInt (by first | rfl | exact nomark _)) (dsOne (dsRet (deVar (pv 1) (nin rfl)))) dsNil)
  (dsCons (dsPar (i := 2) (j := 3) rfl sc_law_rig_of_all_sizes.nd rfl rfl (by decide) rfl rfl (nin rfl) (nin rfl) (daCons (deCall D_law_one.1 hG (hr.mono (by decide)) (takes_of rfl rfl rfl rfl) (agHot (pv 0) (agVal (deLst (daCons deInt (daCons deInt daNil))) agNil)) rfl) (daCons (deB (kLen) (daCons (deIxV (pv 1) deInt (fun _ _ => rfl)) daNil) rfl G.n_len (by decide +kernel)) daNil)) rfl)
  (dsOne (dsRet (deTup (daCons (deVar (pv 2) (nin rfl)) (daCons (deIxV (pv 1) deInt (fun _ _ => rfl)) (daCons (deCall D_law_cures.1 hG (hr.mono (by decide)) (takes_of rfl rfl rfl rfl) (agHot (pv 0) (agVal (deVar (pv 2) (nin rfl)) (agVal (deIxV (pv 1) deInt (fun _ _ => rfl)) agNil))) rfl) (daCons (deCall D_law_signs.1 hG (hr.mono (by decide)) (takes_of rfl rfl rfl rfl) (agHot (pv 0) (agVal (deVar (pv 2) (nin rfl)) (agVal (deVar (pv 3) (nin rfl)) agNil))) rfl) (daCons (deIxV (pv 1) deInt (fun _ _ => rfl)) daNil))))))))))))
theorem sc_law_lots_asked : FnScope ["_law_source", "_law_rig_here", "_law_every", "_law_x", "_law_turn"] ["_law_source", "_law_rig_here"] (defScope s_law_lots_asked) := ⟨rfl, rfl, rfl, by decide +kernel, rfl, by decide +kernel, by decide +kernel⟩
theorem ok_law_lots_asked (G : Gs K mg C_BadLot C_BadRig C_BadSetting C_Refused) {f : Addr} {cdv : Value} (D : At K mg "_law_lots_asked" s_law_lots_asked ["_law_source", "_law_rig_here"] f cdv) (D_law_some : Good Pg w K mg base T 2 "_law_some" ["_law_source", "_law_things"] f_law_some) : Good Pg w K mg base T 3 "_law_lots_asked" ["_law_source", "_law_rig_here"] f_law_lots_asked :=
  goodOf (dfnC (N := ["_law_source", "_law_rig_here", "_law_every", "_law_x", "_law_turn"]) (P := [0]) (body := b_law_lots_asked) D sc_law_lots_asked (by decide) fun A outer s H E hG hr =>
  (dsCons (by first | exact dsSetComp (i := 2) (nin rfl) rfl sc_law_lots_asked.nd rfl rfl rfl (diRng1 rfl G.n_range (daCons (deIxV (pv 1) deInt (fun _ _ => rfl)) daNil)) (own := [("_law_x", 3)]) (by first | (show BlkOk ["_law_source", "_law_rig_here", "_law_every", "_law_x", "_law_turn"] (defScope s_law_lots_asked) _ _; constructor <;> decide +kernel) | exact blkOkR (N := ["_law_source", "_law_rig_here", "_law_every", "_law_x", "_law_turn"]) rfl (by decide +kernel) (by decide +kernel) rfl (by decide +kernel)) (nins rfl) (by decide) (fun _ _ _ _ _ => (dgName (pg_name (i := 3) sc_law_lots_asked.nd rfl (by first | exact .inl rfl | exact .inr rfl)) (nin rfl))) (fun _ _ _ _ _ => dtsNil) (fun _ _ _ _ _ => (deVar (pv 3) (nin rfl))) | exact dsSetHot (i := 2) (dfComp rfl sc_law_lots_asked.nd (diRng1 rfl G.n_range (daCons (deIxV (pv 1) deInt (fun _ _ => rfl)) daNil)) (own := [("_law_x", 3)]) (by first | (show BlkOk ["_law_source", "_law_rig_here", "_law_every", "_law_x", "_law_turn"] (defScope s_law_lots_asked) _ _; constructor <;> decide +kernel) | exact blkOkR (N := ["_law_source", "_law_rig_here", "_law_every", "_law_x", "_law_turn"]) rfl (by decide +kernel) (by decide +kernel) rfl (by decide +kernel)) (nins rfl) (by decide) (fun _ _ _ _ _ => (dgName (pg_name (i := 3) sc_law_lots_asked.nd rfl (by first | exact .inl rfl | exact .inr rfl)) (nin rfl))) (fun _ _ _ _ _ => dtsNil) (fun _ _ _ _ _ => (deVar (pv 3) (nin rfl)))) (nin rfl) (fun te h => ps_set (i := 2) sc_law_lots_asked.nd rfl (by first | exact .inl rfl | exact .inr rfl) h))
  (dsOne (dsRet (deOp oAdd (deLst (daCons (deTup daNil) (daCons (deTy kTup (daCons (deVar (pv 2) (nin rfl)) daNil) rfl G.n_tuple (by decide +kernel)) daNil))) (deOfF (dfComp rfl sc_law_lots_asked.nd (diRng1 rfl G.n_range (daCons deInt daNil)) (own := [("_law_turn", 4)]) (by first | (show BlkOk ["_law_source", "_law_rig_here", "_law_every", "_law_x", "_law_turn"] (defScope s_law_lots_asked) _ _; constructor <;> decide +kernel) | exact blkOkR (N := ["_law_source", "_law_rig_here", "_law_every", "_law_x", "_law_turn"]) rfl (by decide +kernel) (by decide +kernel) rfl (by decide +kernel)) (nins rfl) (by decide) (fun _ _ _ _ _ => (dgName (pg_name (i := 4) sc_law_lots_asked.nd rfl (by first | exact .inl rfl | exact .inr rfl)) (nin rfl))) (fun _ _ _ _ _ => dtsNil) (fun _ _ _ _ _ => (deTy kTup (daCons (deCall D_law_some.1 hG (hr.mono (by decide)) takes_none5 (agHot (pv 0) (agVal (deVar (pv 2) (nin rfl)) agNil)) rfl) daNil) rfl G.n_tuple (by decide +kernel))))))))))
theorem sc_law_shown_pairs : FnScope ["_law_rig_here", "_law_lot", "_law_g", "_law_found", "_law_x", "_law_sign"] ["_law_rig_here", "_law_lot", "_law_g"] (defScope s_law_shown_pairs) := ⟨rfl, rfl, rfl, by decide +kernel, rfl, by decide +kernel, by decide +kernel⟩
theorem ok_law_shown_pairs (G : Gs K mg C_BadLot C_BadRig C_BadSetting C_Refused) {f : Addr} {cdv : Value} (D : At K mg "_law_shown_pairs" s_law_shown_pairs ["_law_rig_here", "_law_lot", "_law_g"] f cdv)  : Good Pg w K mg base T 1 "_law_shown_pairs" ["_law_rig_here", "_law_lot", "_law_g"] f_law_shown_pairs :=
  goodOf (dfnC (N := ["_law_rig_here", "_law_lot", "_law_g", "_law_found", "_law_x", "_law_sign"]) (P := []) (body := b_law_shown_pairs) D sc_law_shown_pairs (by decide) fun A outer s H E hG hr =>
  (dsCons (dsSetE (i := 3) dnDict0 (nin rfl) (fun te h => ps_set (i := 3) sc_law_shown_pairs.nd rfl (by first | exact .inl rfl | exact .inr rfl) h))
  (dsCons (dsFor (passes_of rfl) rfl (diSeq (deVar (pv 1) (nin rfl))) (dgName (pg_name (i := 4) sc_law_shown_pairs.nd rfl (by first | exact .inl rfl | exact .inr rfl)) (nin rfl)) (dsCons (dsSet (i := 5) (deIx oIx (deIx oIx (deIxV (pv 0) deInt (fun _ _ => rfl)) (deVar (pv 2) (nin rfl)) (fun _ _ => rfl)) (deVar (pv 4) (nin rfl)) (fun _ _ => rfl)) (nin rfl) (fun te h => ps_set (i := 5) sc_law_shown_pairs.nd rfl (by first | exact .inl rfl | exact .inr rfl) h))
  (dsOne (dsPutD (Room.u1 hr) (pv 3) (deVar (pv 5) (nin rfl)) (deOp oAdd (deGet2 (Room.u1 hr) (pv 3) (deVar (pv 5) (nin rfl)) (deTup daNil)) (deTup (daCons (deVar (pv 4) (nin rfl)) daNil)))))))
  (dsOne (dsRet (deTy kTup (daCons (deOfF (dfComp rfl sc_law_shown_pairs.nd (diSeq (deSortD rfl (pv 3) rfl G.n_sorted)) (own := [("_law_sign", 5)]) (by first | (show BlkOk ["_law_rig_here", "_law_lot", "_law_g", "_law_found", "_law_x", "_law_sign"] (defScope s_law_shown_pairs) _ _; constructor <;> decide +kernel) | exact blkOkR (N := ["_law_rig_here", "_law_lot", "_law_g", "_law_found", "_law_x", "_law_sign"]) rfl (by decide +kernel) (by decide +kernel) rfl (by decide +kernel)) (nins rfl) (by decide) (fun _ _ _ _ _ => (dgName (pg_name (i := 5) sc_law_shown_pairs.nd rfl (by first | exact .inl rfl | exact .inr rfl)) (nin rfl))) (fun _ _ _ _ _ => dtsNil) (fun _ _ _ _ _ => (deTup (daCons (deVar (pv 5) (nin rfl)) (daCons (deGetD (Room.u1 hr) (pv 3) (deVar (pv 5) (nin rfl)) (fun _ _ => rfl)) daNil)))))) daNil) rfl G.n_tuple (by decide +kernel)))))))
theorem sc_law_lot_refused : FnScope ["_law_asked", "fault"] ["_law_asked"] (defScope s_law_lot_refused) := ⟨rfl, rfl, rfl, by decide +kernel, rfl, by decide +kernel, by decide +kernel⟩
theorem ok_law_lot_refused (G : Gs K mg C_BadLot C_BadRig C_BadSetting C_Refused) {f : Addr} {cdv : Value} (D : At K mg "_law_lot_refused" s_law_lot_refused ["_law_asked"] f cdv)  {kk : Nat} : DfnT Pg w K mg base T kk "_law_lot_refused" 0 K03.f_law_lot_refused :=
  dfnTC (N := ["_law_asked", "fault"]) (body := b_law_lot_refused) D sc_law_lot_refused rfl (by first | exact Or.inl rfl | exact Or.inr (Or.inl rfl)) (by decide) (by decide) (by decide) fun th ok A outer s H E hG hr TH =>
  (dsCons (dsTryL rfl rfl (takes_of rfl rfl rfl rfl)
 (fun W2 pn xe tk2 => (dsOne (dsExpr (TH _ _ _ _ _ tk2))))
 (DCl.cons1 (i := 1) ⟨rfl, by decide, .inl G.x_BadLot.choose_spec.gC⟩ ⟨sc_law_lot_refused.nd, rfl, rfl⟩ (nin rfl) (fun c b A => G.m_BadLot c A b)
 (fun c w a A dd oe pn ok e hm hz hv hok => by
  obtain ⟨TX, EC⟩ := G.err c A (isS_BadLot e) hm
  exact (dsOne (dsRet (deTup (daCons deStr (daCons (deWhat TX.choose_spec hz hv hok (pv 1)) daNil)))))) (DCl.cons1 (i := 1) ⟨rfl, by decide, .inl G.x_BadSetting.choose_spec.gC⟩ ⟨sc_law_lot_refused.nd, rfl, rfl⟩ (nin rfl) (fun c b A => G.m_BadSetting c A b)
 (fun c w a A dd oe pn ok e hm hz hv hok => by
  obtain ⟨TX, EC⟩ := G.err c A (isS_BadSetting e) hm
  exact (dsOne (dsRet (deTup (daCons deStr (daCons (deWhat TX.choose_spec hz hv hok (pv 1)) daNil)))))) (DCl.cons1 (i := 1) ⟨rfl, by decide, .inl G.x_Refused.choose_spec.gC⟩ ⟨sc_law_lot_refused.nd, rfl, rfl⟩ (nin rfl) (fun c b A => G.m_Refused c A b)
 (fun c w a A dd oe pn ok e hm hz hv hok => by
  obtain ⟨TX, EC⟩ := G.err c A (isS_Refused e) hm
  exact (dsOne (dsRet (deTup (daCons deStr (daCons (deWhat TX.choose_spec hz hv hok (pv 1)) daNil)))))) DCl.nil))))
  (dsOne (dsRet (deTup (daCons deStr (daCons deNon daNil))))))
theorem sc_law_wrong_right : FnScope ["_law_source", "_law_rig_here", "_law_n", "_law_m", "_law_g", "_law_odd", "_law_far"] ["_law_source", "_law_rig_here"] (defScope s_law_wrong_right) := ⟨rfl, rfl, rfl, by decide +kernel, rfl, by decide +kernel, by decide +kernel⟩
theorem ok_law_wrong_right (G : Gs K mg C_BadLot C_BadRig C_BadSetting C_Refused) {f : Addr} {c0 Pt : Addr} (TB : LamX.TabB base mg c0 Pt) (TM : (Pt, lamQ "_law_wrong_right") ∈ T) (TU : ∀ p ∈ T, p.1 = Pt → p.2 = lamQ "_law_wrong_right") (D : At K mg "_law_wrong_right" s_law_wrong_right ["_law_source", "_law_rig_here"] f (.ref c0)) (D_law_take : Good Pg w K mg base T 1 "_law_take" ["_law_source", "_law_top"] f_law_take) (D_law_one : Good Pg w K mg base T 2 "_law_one" ["_law_source", "_law_things"] f_law_one) (D_law_lot_refused : DfnT Pg w K mg base T 9 "_law_lot_refused" 0 K03.f_law_lot_refused) (D_parted : Good Pg w K mg base T 8 "parted" ["rig", "lot", "g"] f_parted) (D_one_sign : Good Pg w K mg base T 8 "one_sign" ["rig", "lot", "g"] f_one_sign) : Good Pg w K mg base T 11 "_law_wrong_right" ["_law_source", "_law_rig_here"] K03.f_law_wrong_right :=
  goodOf (dfnC (N := ["_law_source", "_law_rig_here", "_law_n", "_law_m", "_law_g", "_law_odd", "_law_far"]) (P := [0]) (body := b_law_wrong_right) D sc_law_wrong_right (by decide) fun A outer s H E hG hr =>
  (dsCons (dsPar (i := 2) (j := 3) rfl sc_law_wrong_right.nd rfl rfl (by decide) rfl rfl (nin rfl) (nin rfl) (daCons (deIxV (pv 1) deInt (fun _ _ => rfl)) (daCons (deB (kLen) (daCons (deIxV (pv 1) deInt (fun _ _ => rfl)) daNil) rfl G.n_len (by decide +kernel)) daNil)) rfl)
  (dsCons (dsSet (i := 4) (deCall D_law_take.1 hG (hr.mono (by decide)) (takes_of rfl rfl rfl rfl) (agHot (pv 0) (agVal (deVar (pv 3) (nin rfl)) agNil)) rfl) (nin rfl) (fun te h => ps_set (i := 4) sc_law_wrong_right.nd rfl (by first | exact .inl rfl | exact .inr rfl) h))
  (dsCons (dsSet (i := 5) (deCall D_law_one.1 hG (hr.mono (by decide)) (takes_of rfl rfl rfl rfl) (agHot (pv 0) (agVal (deLst (daCons deNon (daCons (deTup (daCons (deVar (pv 2) (nin rfl)) daNil)) (daCons (deTup (daCons (deNeg deInt) daNil)) (daCons (deTup (daCons deInt (daCons deInt daNil))) (daCons deInt (daCons deStr (daCons (deTup (daCons (deTup (daCons deInt daNil)) daNil)) (daCons (deTup (daCons deInt (daCons deNon daNil))) (daCons (deTup (daCons (deOp oSub (deVar (pv 2) (nin rfl)) deInt) (daCons deInt daNil))) daNil)))))))))) agNil)) rfl) (nin rfl) (fun te h => ps_set (i := 5) sc_law_wrong_right.nd rfl (by first | exact .inl rfl | exact .inr rfl) h))
  (dsCons (dsSet (i := 6) (deCall D_law_one.1 hG (hr.mono (by decide)) (takes_of rfl rfl rfl rfl) (agHot (pv 0) (agVal (deLst (daCons (deVar (pv 3) (nin rfl)) (daCons (deNeg deInt) (daCons deNon (daCons deStr (daCons (deTup (daCons deInt daNil)) daNil)))))) agNil)) rfl) (nin rfl) (fun te h => ps_set (i := 6) sc_law_wrong_right.nd rfl (by first | exact .inl rfl | exact .inr rfl) h))
  (dsCons (dsIf (dtCmp (oNe (Room.u64 hr)) (deLam (k := 8) D_law_lot_refused rfl rfl hG (hr.mono (by decide)) (takes_of rfl rfl rfl rfl) TB rfl TM TU (LamX.lamS_by (by show LamX.lamSB (defScope s_law_wrong_right) _ = true; decide +kernel)) rfl (fun _ _ _ _ _ => rfl) (fun A outer s H E f cd hG2 hr2 => (deCall D_parted.1 hG2 (hr2.mono (by decide)) (takes_of rfl rfl rfl rfl) (agVal (deVar (pv 1) (nin rfl)) (agVal (deVar (pv 5) (nin rfl)) (agVal (deVar (pv 6) (nin rfl)) agNil))) rfl)) caNil rfl) (deTup (daCons deStr (daCons (deNeg deInt) daNil))) (by first | rfl | exact nomark _)) (dsOne (dsRet deBl)) dsNil)
  (dsCons (dsIf (dtCmp (oNe (Room.u64 hr)) (deLam (k := 8) D_law_lot_refused rfl rfl hG (hr.mono (by decide)) (takes_of rfl rfl rfl rfl) TB rfl TM TU (LamX.lamS_by (by show LamX.lamSB (defScope s_law_wrong_right) _ = true; decide +kernel)) rfl (fun _ _ _ _ _ => rfl) (fun A outer s H E f cd hG2 hr2 => (deCall D_one_sign.1 hG2 (hr2.mono (by decide)) (takes_of rfl rfl rfl rfl) (agVal (deVar (pv 1) (nin rfl)) (agVal (deVar (pv 5) (nin rfl)) (agVal (deVar (pv 4) (nin rfl)) agNil))) rfl)) caNil rfl) (deTup (daCons deStr (daCons (deNeg deInt) daNil))) (by first | rfl | exact nomark _)) (dsOne (dsRet deBl)) dsNil)
  (dsCons (dsIf (dtCmp (oNe (Room.u64 hr)) (deLam (k := 8) D_law_lot_refused rfl rfl hG (hr.mono (by decide)) (takes_of rfl rfl rfl rfl) TB rfl TM TU (LamX.lamS_by (by show LamX.lamSB (defScope s_law_wrong_right) _ = true; decide +kernel)) rfl (fun _ _ _ _ _ => rfl) (fun A outer s H E f cd hG2 hr2 => (deCall D_parted.1 hG2 (hr2.mono (by decide)) (takes_of rfl rfl rfl rfl) (agVal (deVar (pv 1) (nin rfl)) (agVal (deTup daNil) (agVal (deVar (pv 6) (nin rfl)) agNil))) rfl)) caNil rfl) (deTup (daCons deStr (daCons (deVar (pv 6) (nin rfl)) daNil))) (by first | rfl | exact nomark _)) (dsOne (dsRet deBl)) dsNil)
  (dsOne (dsRet (deCmp (oEq (Room.u64 hr)) (deLam (k := 8) D_law_lot_refused rfl rfl hG (hr.mono (by decide)) (takes_of rfl rfl rfl rfl) TB rfl TM TU (LamX.lamS_by (by show LamX.lamSB (defScope s_law_wrong_right) _ = true; decide +kernel)) rfl (fun _ _ _ _ _ => rfl) (fun A outer s H E f cd hG2 hr2 => (deCall D_one_sign.1 hG2 (hr2.mono (by decide)) (takes_of rfl rfl rfl rfl) (agVal (deVar (pv 1) (nin rfl)) (agVal (deTup (daCons deInt daNil)) (agVal (deVar (pv 6) (nin rfl)) agNil))) rfl)) caNil rfl) (deTup (daCons deStr (daCons (deVar (pv 6) (nin rfl)) daNil))) (by first | rfl | exact nomark _))))))))))))
theorem sc_law : FnScope ["_law_script", "_law_k", "_law_source", "_law_rig_here", "_law_lot", "_law_g", "_law_due", "_law_told", "_law_pair"] ["_law_script"] (defScope s_law) := ⟨rfl, rfl, rfl, by decide +kernel, rfl, by decide +kernel, by decide +kernel⟩
theorem ok_law (G : Gs K mg C_BadLot C_BadRig C_BadSetting C_Refused) {f : Addr} {cdv : Value} (D : At K mg "law" s_law ["_law_script"] f cdv) (D_law_pool : Good Pg w K mg base T 1 "_law_pool" ["_law_script", "_law_k"] f_law_pool) (D_law_rig_of_all_sizes : Good Pg w K mg base T 4 "_law_rig_of_all_sizes" ["_law_source"] f_law_rig_of_all_sizes) (D_law_lots_asked : Good Pg w K mg base T 3 "_law_lots_asked" ["_law_source", "_law_rig_here"] f_law_lots_asked) (D_parted : Good Pg w K mg base T 8 "parted" ["rig", "lot", "g"] f_parted) (D_law_shown_pairs : Good Pg w K mg base T 1 "_law_shown_pairs" ["_law_rig_here", "_law_lot", "_law_g"] f_law_shown_pairs) (D_one_sign : Good Pg w K mg base T 8 "one_sign" ["rig", "lot", "g"] f_one_sign) (D_law_wrong_right : Good Pg w K mg base T 11 "_law_wrong_right" ["_law_source", "_law_rig_here"] K03.f_law_wrong_right) : Good Pg w K mg base T 12 "law" ["_law_script"] K03.f_law :=
  goodOf (dfnC (N := ["_law_script", "_law_k", "_law_source", "_law_rig_here", "_law_lot", "_law_g", "_law_due", "_law_told", "_law_pair"]) (P := []) (body := b_law) D sc_law (by decide) fun A outer s H E hG hr =>
  (dsCons (dsFor (passes_of rfl) rfl (diRng1 rfl G.n_range (daCons (deB (kMax rfl) (daCons deInt (daCons (deB (kMin rfl) (daCons (deLenV (pv 0) rfl G.n_len) (daCons deInt daNil)) rfl G.n_min (by decide +kernel)) daNil)) rfl G.n_max (by decide +kernel)) daNil)) (dgName (pg_name (i := 1) sc_law.nd rfl (by first | exact .inl rfl | exact .inr rfl)) (nin rfl)) (dsCons (dsSetE (i := 2) (dnCall D_law_pool.1 hG (hr.mono (by decide)) (takes_of rfl rfl rfl rfl) (agVal (deVar (pv 0) (nin rfl)) (agVal (deVar (pv 1) (nin rfl)) agNil)) rfl) (nin rfl) (fun te h => ps_set (i := 2) sc_law.nd rfl (by first | exact .inl rfl | exact .inr rfl) h))
  (dsCons (dsSet (i := 3) (deCall D_law_rig_of_all_sizes.1 hG (hr.mono (by decide)) (takes_of rfl rfl rfl rfl) (agHot (pv 2) agNil) rfl) (nin rfl) (fun te h => ps_set (i := 3) sc_law.nd rfl (by first | exact .inl rfl | exact .inr rfl) h))
  (dsCons (dsFor (passes_of rfl) rfl (diSeq (deCall D_law_lots_asked.1 hG (hr.mono (by decide)) (takes_of rfl rfl rfl rfl) (agHot (pv 2) (agVal (deVar (pv 3) (nin rfl)) agNil)) rfl)) (dgName (pg_name (i := 4) sc_law.nd rfl (by first | exact .inl rfl | exact .inr rfl)) (nin rfl)) (dsOne (dsFor (passes_of rfl) rfl (diRng1 rfl G.n_range (daCons (deB (kLen) (daCons (deIxV (pv 3) deInt (fun _ _ => rfl)) daNil) rfl G.n_len (by decide +kernel)) daNil)) (dgName (pg_name (i := 5) sc_law.nd rfl (by first | exact .inl rfl | exact .inr rfl)) (nin rfl)) (dsCons (dsPar (i := 6) (j := 7) rfl sc_law.nd rfl rfl (by decide) rfl rfl (nin rfl) (nin rfl) (daCons (deCall D_law_shown_pairs.1 hG (hr.mono (by decide)) (takes_of rfl rfl rfl rfl) (agVal (deVar (pv 3) (nin rfl)) (agVal (deVar (pv 4) (nin rfl)) (agVal (deVar (pv 5) (nin rfl)) agNil))) rfl) (daCons (deCall D_parted.1 hG (hr.mono (by decide)) (takes_of rfl rfl rfl rfl) (agVal (deVar (pv 3) (nin rfl)) (agVal (deVar (pv 4) (nin rfl)) (agVal (deVar (pv 5) (nin rfl)) agNil))) rfl) daNil)) rfl)
  (dsCons (dsIf (dtW (dwOr (dtCmp (oNe (Room.u64 hr)) (deB (kRepr hG (Room.u80 hr)) (daCons (deVar (pv 7) (nin rfl)) daNil) rfl G.n_repr (by decide +kernel)) (deB (kRepr hG (Room.u80 hr)) (daCons (deVar (pv 6) (nin rfl)) daNil) rfl G.n_repr (by decide +kernel)) (by first | rfl | exact nomark _)) (dwOr1 (dtCmp (oNe (Room.u64 hr)) (deB (kRepr hG (Room.u80 hr)) (daCons (deCall D_one_sign.1 hG (hr.mono (by decide)) (takes_of rfl rfl rfl rfl) (agVal (deVar (pv 3) (nin rfl)) (agVal (deVar (pv 4) (nin rfl)) (agVal (deVar (pv 5) (nin rfl)) agNil))) rfl) daNil) rfl G.n_repr (by decide +kernel)) (deB (kRepr hG (Room.u80 hr)) (daCons (deCmp (oLt (Room.u64 hr)) (deLenV (pv 6) rfl G.n_len) deInt (by first | rfl | exact nomark _)) daNil) rfl G.n_repr (by decide +kernel)) (by first | rfl | exact nomark _))))) (dsOne (dsRet deBl)) dsNil)
  (dsOne (dsIf (dtCmp (oNe (Room.u64 hr)) (deB kSort2 (daCons (deB (kSumT rfl) (daCons (deOfF (dfComp rfl sc_law.nd (diSeq (deVar (pv 7) (nin rfl))) (own := [("_law_pair", 8)]) (by first | (show BlkOk ["_law_script", "_law_k", "_law_source", "_law_rig_here", "_law_lot", "_law_g", "_law_due", "_law_told", "_law_pair"] (defScope s_law) _ _; constructor <;> decide +kernel) | exact blkOkR (N := ["_law_script", "_law_k", "_law_source", "_law_rig_here", "_law_lot", "_law_g", "_law_due", "_law_told", "_law_pair"]) rfl (by decide +kernel) (by decide +kernel) rfl (by decide +kernel)) (nins rfl) (by decide) (fun _ _ _ _ _ => (dgName (pg_name (i := 8) sc_law.nd rfl (by first | exact .inl rfl | exact .inr rfl)) (nin rfl))) (fun _ _ _ _ _ => dtsNil) (fun _ _ _ _ _ => (deIxV (pv 8) deInt (fun _ _ => rfl))))) (daCons (deTup daNil) daNil)) rfl G.n_sum (by decide +kernel)) daNil) rfl G.n_sorted (by decide +kernel)) (deTy kLst (daCons (deVar (pv 4) (nin rfl)) daNil) rfl G.n_list (by decide +kernel)) (by first | rfl | exact nomark _)) (dsOne (dsRet deBl)) dsNil)))))))
  (dsOne (dsIf (dtNot (dtOf (deCall D_law_wrong_right.1 hG (hr.mono (by decide)) (takes_of rfl rfl rfl rfl) (agHot (pv 2) (agVal (deVar (pv 3) (nin rfl)) agNil)) rfl))) (dsOne (dsRet deBl)) dsNil))))))
  (dsOne (dsRet deBl))))
end
end K03
set_option maxHeartbeats 1000000
namespace K03
open PySem PySem.Spec Dn L2 Sh
theorem strEqv (x : Str) : PyData.eqv (.str x) (.str x) = true := by
  show (x == x) = true
  simp
theorem nePair {x : Str} {d : PyData} (hx : PyData.strOk x = true) (h1 : PyData.canLay0 d = true) (h2 : PyData.depth d ≤ 1) (h3 : PyData.eqv d d = true) : SeqAt.shaped (.tuple [.str x, d]) = true ∧ PyData.eqv (.tuple [.str x, d]) (.tuple [.str x, d]) = true := by
  have a : PyData.canLay0 (.tuple [.str x, d]) = true := by
    show (PyData.strOk x && (PyData.canLay0 d && true)) = true
    rw [hx, h1]
    rfl
  have b : PyData.depth (.tuple [.str x, d]) ≤ 3 := by
    show max 0 (max (PyData.depth d) 0) + 1 ≤ 3
    omega
  refine ⟨shOf a b, ?_⟩
  show (PyData.eqv (.str x) (.str x) && (PyData.eqv d d && true)) = true
  rw [strEqv, h3]
  rfl
theorem cNePair {x : Str} {d : PyData} (hx : PyData.strOk x = true) (h1 : PyData.canLay0 d = true) (h2 : PyData.depth d ≤ 1) (h3 : PyData.eqv d d = true) : cNe (.tuple [.str x, d]) (.tuple [.str x, d]) = some false := by
  obtain ⟨a, b⟩ := nePair hx h1 h2 h3
  show (if SeqAt.shaped (.tuple [.str x, d]) = true ∧ SeqAt.shaped (.tuple [.str x, d]) = true then some (!PyData.eqv (.tuple [.str x, d]) (.tuple [.str x, d])) else none) = _
  rw [if_pos ⟨a, a⟩, b]
  rfl
theorem cEqPair {x : Str} {d : PyData} (hx : PyData.strOk x = true) (h1 : PyData.canLay0 d = true) (h2 : PyData.depth d ≤ 1) (h3 : PyData.eqv d d = true) : cEq (.tuple [.str x, d]) (.tuple [.str x, d]) = some true := by
  obtain ⟨a, b⟩ := nePair hx h1 h2 h3
  show (if SeqAt.shaped (.tuple [.str x, d]) = true ∧ SeqAt.shaped (.tuple [.str x, d]) = true then some (PyData.eqv (.tuple [.str x, d]) (.tuple [.str x, d])) else none) = _
  rw [if_pos ⟨a, a⟩, b]
theorem refLot (w : PyData) (r : Rho) : f_law_lot_refused (.ex "BadLot" w r) [] = .rt (.tuple [.str "lot", w]) := by
  have e2 : is_BadLot "BadLot" = some true := by decide
  simp [f_law_lot_refused, fnT, b_law_lot_refused, rhoL, sTryL, pickL, mThk, e2, unslot]
theorem refSet (w : PyData) (r : Rho) : f_law_lot_refused (.ex "BadSetting" w r) [] = .rt (.tuple [.str "setting", w]) := by
  have e2 : is_BadLot "BadSetting" = some false := by decide
  have e3 : is_BadSetting "BadSetting" = some true := by decide
  simp [f_law_lot_refused, fnT, b_law_lot_refused, rhoL, sTryL, pickL, mThk, e2, e3, unslot]
theorem lamOk {fm : Out PyData → List PyData → FT} {m : Mi PyData} {ds : List PyData} {r : Rho} {o : Out PyData} {d : PyData} (h : m (erase r) = o) (h2 : fm o ds = .rt d) : mLam fm m ds r = .ok d r := by
  unfold mLam
  rw [h, h2]
theorem asc_odd2 (i : Int) (d : PyData) (ds : List PyData) (m : Int) (h : f_is_number [.val d] = .rt (.cold (.bool false)) []) : f_is_ascending [.val (.tuple (.int i :: d :: ds)), .val (.int m)] = .rt (.cold (.bool false)) [] := by
  by_cases h1 : -1 < i
  · by_cases h2 : i < m
    · simp [f_is_ascending, b_is_ascending, e_forc, l_is_ascending_0, is_number_int, h, h1, h2]
    · simp [f_is_ascending, b_is_ascending, e_forc, l_is_ascending_0, is_number_int, h, h1, h2]
  · simp [f_is_ascending, b_is_ascending, e_forc, l_is_ascending_0, is_number_int, h, h1]
theorem wrong_ok {a b : Int} (I : Inv a b) {g : Rig} (ok : g.ok) : ∃ (a' b' : Int), Inv a' b' ∧ f_law_wrong_right [.hot (src a b), .val g.d] = .rt (.cold (.bool true)) [.hot (src a' b')] := by
  have n1 := ok.n1
  have s1 := ok.s1
  have s2 := ok.s2
  obtain ⟨t, a1, b1, I1, t0, t1, e1⟩ := take_ok I (top := (g.signs.length : Int)) (by omega) (by omega)
  obtain ⟨a2, b2, d, I2, hd, e2⟩ := one_ok I1 [.none, .tuple [.int g.n], .tuple [.int (-1)], .tuple [.int 0, .int 0], .int 0, .str "0", .tuple [.tuple [.int 0]], .tuple [.int 0, .none], .tuple [.int ((g.n : Int) - 1), .int 0]] (by simp) (by simp)
  obtain ⟨a3, b3, f, I3, hf, e3⟩ := one_ok I2 [.int g.signs.length, .int (-1), .none, .str "0", .tuple [.int 0]] (by simp) (by simp)
  have bad : f_is_ascending [.val d, .val (.int g.n)] = .rt (.cold (.bool false)) [] := by
    simp only [List.mem_cons, List.not_mem_nil, or_false] at hd
    rcases hd with rfl | rfl | rfl | rfl | rfl | rfl | rfl | rfl | rfl
    · exact asc_none _
    · have z := asc_ints [(g.n : Int)] g.n
      simpa [asc, tupD] using z
    · have z := asc_ints [-1] g.n
      simpa [asc, tupD] using z
    · have z := asc_ints [0, 0] g.n
      simpa [asc, tupD] using z
    · exact asc_int _ _
    · exact asc_str _ _
    · exact asc_odd _ _ _ (is_number_tup _)
    · exact asc_odd2 _ _ _ _ is_number_none
    · have z := asc_ints [(g.n : Int) - 1, 0] g.n
      have w : asc g.n (-1) [(g.n : Int) - 1, 0] = false := by
        rw [Bool.eq_false_iff]
        intro h
        simp only [asc, Bool.and_eq_true, decide_eq_true_eq] at h
        omega
      rw [w] at z
      exact z
  have far : f_is_index [.val f, .val (.int g.signs.length)] = .rt (.cold (.bool false)) [] ∧ PyData.canLay0 f = true ∧ PyData.depth f ≤ 1 ∧ PyData.eqv f f = true := by
    simp only [List.mem_cons, List.not_mem_nil, or_false] at hf
    rcases hf with rfl | rfl | rfl | rfl | rfl
    · refine ⟨?_, rfl, Nat.zero_le 1, by rw [eqvI]; simp⟩
      rw [is_index_int]
      have w : ¬ (g.signs.length : Int) ≤ (g.signs.length : Int) - 1 := by omega
      simp [w]
    · refine ⟨?_, rfl, by decide, by rw [eqvI]; simp⟩
      rw [is_index_int]
      rfl
    · exact ⟨is_index_no _ is_number_none, rfl, by decide, rfl⟩
    · exact ⟨is_index_no _ (is_number_str _), by decide +kernel, by decide +kernel, strEqv _⟩
    · exact ⟨is_index_no _ (is_number_tup _), rfl, by decide +kernel, by decide +kernel⟩
  obtain ⟨far, c1, c2, c3⟩ := far
  have x0 : asc g.n (-1) [] = true := rfl
  have x1 : asc g.n (-1) [0] = true := by
    simp only [asc, Bool.and_eq_true, decide_eq_true_eq, and_true]
    omega
  have k1 : check_bad ok d bad = check_bad ok d bad := rfl
  have p1 : f_parted [.val g.d, .val d, .val f] = .ex "BadLot" (.int (-1)) [] := by simp [f_parted, b_parted, check_bad ok d bad]
  have p2 : f_one_sign [.val g.d, .val d, .val (.int t)] = .ex "BadLot" (.int (-1)) [] := by simp [f_one_sign, b_one_sign, check_bad ok d bad]
  have k2 : f_check_rig_and_lot [.val g.d, .val (.tuple [])] = .rt (.cold .none) [] := check_ok ok [] x0
  have k3 : f_check_rig_and_lot [.val g.d, .val (.tuple [.int 0])] = .rt (.cold .none) [] := check_ok ok [0] x1
  have p3 : f_parted [.val g.d, .val (.tuple []), .val f] = .ex "BadSetting" f [] := by simp [f_parted, b_parted, k2, check_setting_bad g far]
  have p4 : f_one_sign [.val g.d, .val (.tuple [.int 0]), .val f] = .ex "BadSetting" f [] := by simp [f_one_sign, b_one_sign, k3, check_setting_bad g far]
  have q1 : cNe (.tuple [.str "lot", .int (-1)]) (.tuple [.str "lot", .int (-1)]) = some false := cNePair (by decide +kernel) rfl (by decide) (by rw [eqvI]; simp)
  have q2 : cNe (.tuple [.str "setting", f]) (.tuple [.str "setting", f]) = some false := cNePair (by decide +kernel) c1 c2 c3
  have q3 : cEq (.tuple [.str "setting", f]) (.tuple [.str "setting", f]) = some true := cEqPair (by decide +kernel) c1 c2 c3
  let R : Rho := [some (.hot (src a3 b3)), some (.val g.d), some (.val (.int g.n)), some (.val (.int g.signs.length)), some (.val (.int t)), some (.val d), some (.val f)]
  let Re : Rho := [none, some (.val g.d), some (.val (.int g.n)), some (.val (.int g.signs.length)), some (.val (.int t)), some (.val d), some (.val f)]
  have er : erase R = Re := rfl
  have m1 : mLam f_law_lot_refused (mCall f_parted (aVal (mVar 1) (aVal (mVar 5) (aVal (mVar 6) aNil)))) [] R = .ok (.tuple [.str "lot", .int (-1)]) R := by
    refine lamOk (o := .ex "BadLot" (.int (-1)) Re) ?_ (refLot _ _)
    rw [er]
    simp [Re, p1]
  have m2 : mLam f_law_lot_refused (mCall f_one_sign (aVal (mVar 1) (aVal (mVar 5) (aVal (mVar 4) aNil)))) [] R = .ok (.tuple [.str "lot", .int (-1)]) R := by
    refine lamOk (o := .ex "BadLot" (.int (-1)) Re) ?_ (refLot _ _)
    rw [er]
    simp [Re, p2]
  have m3 : mLam f_law_lot_refused (mCall f_parted (aVal (mVar 1) (aVal (mTup (mNil)) (aVal (mVar 6) (aNil))))) [] R = .ok (.tuple [.str "setting", f]) R := by
    refine lamOk (o := .ex "BadSetting" f Re) ?_ (refSet _ _)
    rw [er]
    simp [Re, p3]
  have m4 : mLam f_law_lot_refused (mCall f_one_sign (aVal (mVar 1) (aVal (mTup (mCons (Mi.ret (.int 0)) (mNil))) (aVal (mVar 6) (aNil))))) [] R = .ok (.tuple [.str "setting", f]) R := by
    refine lamOk (o := .ex "BadSetting" f Re) ?_ (refSet _ _)
    rw [er]
    simp [Re, p4]
  refine ⟨a3, b3, I3, ?_⟩
  have hb : b_law_wrong_right [some (.hot (src a b)), some (.val g.d), none, none, none, none, none] = .rt (.cold (.bool true)) R := by
    unfold b_law_wrong_right
    refine (seqNx (r1 := [some (.hot (src a b)), some (.val g.d), some (.val (.int g.n)), some (.val (.int g.signs.length)), none, none, none]) (by simp [rig_n, rig_s, sd_len])).trans ?_
    refine (seqNx (r1 := [some (.hot (src a1 b1)), some (.val g.d), some (.val (.int g.n)), some (.val (.int g.signs.length)), some (.val (.int t)), none, none]) (by simp [e1])).trans ?_
    refine (seqNx (r1 := [some (.hot (src a2 b2)), some (.val g.d), some (.val (.int g.n)), some (.val (.int g.signs.length)), some (.val (.int t)), some (.val d), none]) (by simp [e2])).trans ?_
    refine (seqNx (r1 := R) (by simp [e3, R])).trans ?_
    refine (seqNx (r1 := R) (by rw [e_sif, e_sBind, e_tst, e_bind, m1]; simp [R, q1])).trans ?_
    refine (seqNx (r1 := R) (by rw [e_sif, e_sBind, e_tst, e_bind, m2]; simp [R, q1])).trans ?_
    refine (seqNx (r1 := R) (by rw [e_sif, e_sBind, e_tst, e_bind, m3]; simp [R, q2])).trans ?_
    rw [e_sret, e_sBind, e_bin, e_bind, m4]
    simp [R, q3]
  unfold f_law_wrong_right
  exact fnRt2 (by simp) (by simp) hb (by simp [R])
theorem one_law {g : Rig} (ok : g.ok) (S kk : PyData) (src0 : Ent) (ls : List Int) (h : asc g.n (-1) ls = true) {s : Int} (s0 : 0 ≤ s) (s1 : s < g.signs.length) (x6 x7 : Option Ent) : ∃ y6 y7,
    l_law_1 [some (.val S), some (.val kk), some src0, some (.val g.d), some (.val (tupD ls)), some (.val (.int s)), x6, x7, none] = .nx [some (.val S), some (.val kk), some src0, some (.val g.d), some (.val (tupD ls)), some (.val (.int s)), y6, y7, none] := by
  have hx := lot_in h
  have hl := lot_len ok h
  have eS := shown_ok ok s0 s1 hx hl
  have eP := parted_ok ok s0 s1 h
  have eO := one_sign_ok ok s0 s1 h
  have W := grp_shw ok s0 s1 hx hl
  have G := grp_ok (g.sg s) ls
  generalize grp (g.sg s) ls = kv at eS eP eO W G
  have rp : bRepr [grpD kv] = some (.str (PyData.shown (grpD kv))) := W.repr (by decide) (by decide)
  have nn := neStr W.ok
  have b1 := G.len
  refine ⟨some (.val (grpD kv)), some (.val (grpD kv)), ?_⟩
  let R : Rho := [some (.val S), some (.val kk), some src0, some (.val g.d), some (.val (tupD ls)), some (.val (.int s)), some (.val (grpD kv)), some (.val (grpD kv)), none]
  have hc := comp_pure (v := 8) (t := t_law_0) (m := e_law_0) (mi := mIter (mVar 7)) (r := R) (r0 := R)
    (ds := (srtI (kys kv)).map (prD kv)) (fun _ => true) (fun d => match d with | .tuple [_, x] => x | _ => .none) (by simp [R, grpD]) rfl (by rw [List.length_map, srt_len]; omega) (fun d hd => by
      obtain ⟨k, hk, rfl⟩ := List.mem_map.mp hd
      have e1 : fIx (prD kv k) (.int 1) = some (tupD (gt kv k)) := rfl
      refine ⟨by simp [t_law_0], fun _ => ?_⟩
      have z : mIxV 8 (Mi.ret (.int 1)) (R.set 8 (some (.val (prD kv k)))) = .ok (tupD (gt kv k)) (R.set 8 (some (.val (prD kv k)))) := by simp [R, e1]
      exact z)
  rw [List.filter_eq_self.mpr (fun _ _ => rfl), List.map_map] at hc
  have eL : (srtI (kys kv)).map ((fun d => match d with | PyData.tuple [_, x] => x | _ => PyData.none) ∘ prD kv) = (grpL kv).map tupD := by
    unfold grpL
    rw [List.map_map]
    rfl
  rw [eL] at hc
  have ne : ∀ p ∈ grpL kv, p ≠ [] := fun p hp => by
    obtain ⟨k, hk, rfl⟩ := List.mem_map.mp hp
    exact G.ne _ (gt_mem ((srtI_perm _).mem_iff.mp hk))
  have lf : (grpL kv).flatten.length ≤ 16777216 := by
    rw [(grp_all G).length_eq]
    omega
  have eT : bSumT [.list ((grpL kv).map tupD), .tuple []] = some (tupD (grpL kv).flatten) := by
    simp only [bSumT]
    rw [tupsMap _ ne]
    exact if_pos lf
  have eQ : bSort2 [tupD (grpL kv).flatten] = some (.list (ls.map .int)) := by
    show (intsOf ((grpL kv).flatten.map .int)).map (fun ns => PyData.list ((srtI ns).map .int)) = _
    rw [intsMap]
    show some (PyData.list ((srtI (grpL kv).flatten).map .int)) = _
    rw [grp_sorted G (asc_lt h)]
  have eB : bLst [tupD ls] = some (.list (ls.map .int)) := rfl
  unfold l_law_1
  refine (seqNx (r1 := R) (by simp [eS, eP, R])).trans ?_
  have cmp : cLt (.int kv.length) (.int 2) = some (!decide (1 < kv.length)) := by
    show some (decide ((kv.length : Int) < 2)) = _
    congr 1
    rw [Bool.eq_iff_iff]
    simp
    omega
  refine (seqNx (r1 := R) (by simp [R, rp, nn, eO, grp_blen, neTf, cmp])).trans ?_
  rw [e_sif, e_sBind, e_tst, e_bind, e_blt, e_bind, e_cons, e_bind, e_blt, e_bind, e_cons, e_bind, e_ofF, e_bind, hc]
  simp [R, eT, eQ, eB]
theorem law_true (ns : List Int) (h1 : ns.length ≤ 63) (h2 : ∀ z ∈ ns, Builtin.Int.intBits z ≤ 1048576) : f_law [.val (intsD ns)] = .rt (.cold (.bool true)) [] := by
  let S := intsD ns
  have lots : ∀ {g : Rig} (ok : g.ok) (kk : PyData) (src0 : Ent) (ls : List Int) (h : asc g.n (-1) ls = true) (x5 x6 x7 : Option Ent), ∃ y5 y6 y7,
      l_law_2 [some (.val S), some (.val kk), some src0, some (.val g.d), some (.val (tupD ls)), x5, x6, x7, none] = .nx [some (.val S), some (.val kk), some src0, some (.val g.d), some (.val (tupD ls)), y5, y6, y7, none] := by
    intro g ok kk src0 ls h x5 x6 x7
    have s2 := ok.s2
    obtain ⟨r', lp, y5, y6, y7, hr⟩ := forL_inv (g := gNm 5) (b := l_law_1)
      (fun _ r => ∃ y5 y6 y7, r = [some (.val S), some (.val kk), some src0, some (.val g.d), some (.val (tupD ls)), y5, y6, y7, none])
      ((rg g.signs.length).map .int) 0 [some (.val S), some (.val kk), some src0, some (.val g.d), some (.val (tupD ls)), x5, x6, x7, none] ⟨x5, x6, x7, rfl⟩
      (fun j d r hd ⟨x5, x6, x7, hr⟩ => by
        subst hr
        rw [List.getElem?_map] at hd
        obtain ⟨s, hj, rfl⟩ := Option.map_eq_some_iff.mp hd
        obtain ⟨s0, s1⟩ := rg_mem.mp (List.mem_of_getElem? hj)
        obtain ⟨y6, y7, e⟩ := one_law ok S kk src0 ls h s0 s1 x6 x7
        exact ⟨_, _, rfl, e, _, y6, y7, rfl⟩)
    subst hr
    refine ⟨y5, y6, y7, ?_⟩
    unfold l_law_2
    exact forS (rngE (q := g.signs.length) (by simp [rig_s, sd_len]) (by omega)) lp
  have cells : ∀ (k : Nat) (hk : k ≤ 62) (x2 x3 x4 x5 x6 x7 : Option Ent), ∃ y2 y3 y4 y5 y6 y7,
      l_law_3 [some (.val S), some (.val (.int k)), x2, x3, x4, x5, x6, x7, none] = .nx [some (.val S), some (.val (.int k)), y2, y3, y4, y5, y6, y7, none] := by
    intro k hk x2 x3 x4 x5 x6 x7
    obtain ⟨a, b, I, eP⟩ := pool_ok ns k hk
    obtain ⟨a1, b1, g, I1, ok, e1⟩ := sizes_ok I
    obtain ⟨a2, b2, Ls, I2, hL, e2⟩ := asked_ok I1 ok
    obtain ⟨a3, b3, I3, e3⟩ := wrong_ok I2 ok
    obtain ⟨r', lp, y4, y5, y6, y7, hr⟩ := forL_inv (g := gNm 4) (b := l_law_2)
      (fun _ r => ∃ y4 y5 y6 y7, r = [some (.val S), some (.val (.int k)), some (.hot (src a2 b2)), some (.val g.d), y4, y5, y6, y7, none])
      (Ls.map tupD) 0 [some (.val S), some (.val (.int k)), some (.hot (src a2 b2)), some (.val g.d), x4, x5, x6, x7, none] ⟨x4, x5, x6, x7, rfl⟩
      (fun j d r hd ⟨x4, x5, x6, x7, hr⟩ => by
        subst hr
        rw [List.getElem?_map] at hd
        obtain ⟨L, hj, rfl⟩ := Option.map_eq_some_iff.mp hd
        obtain ⟨y5, y6, y7, e⟩ := lots ok (.int k) (.hot (src a2 b2)) L (hL L (List.mem_of_getElem? hj)) x5 x6 x7
        exact ⟨_, _, rfl, e, _, y5, y6, y7, rfl⟩)
    subst hr
    refine ⟨some (.hot (src a3 b3)), some (.val g.d), y4, y5, y6, y7, ?_⟩
    unfold l_law_3
    have eP' : f_law_pool [.val S, .val (.int k)] = .rt (.fresh (src a b)) [] := eP
    refine (seqNx (r1 := [some (.val S), some (.val (.int k)), some (.hot (src a b)), x3, x4, x5, x6, x7, none]) (by simp [eP'])).trans ?_
    refine (seqNx (r1 := [some (.val S), some (.val (.int k)), some (.hot (src a1 b1)), some (.val g.d), x4, x5, x6, x7, none]) (by simp [e1])).trans ?_
    refine (seqNx (forS (r0 := [some (.val S), some (.val (.int k)), some (.hot (src a2 b2)), some (.val g.d), x4, x5, x6, x7, none]) (by simp [e2]) lp)).trans ?_
    simp [e3]
  let t : Nat := max 1 (min ns.length 3)
  obtain ⟨r', lp, y1, y2, y3, y4, y5, y6, y7, hr⟩ := forL_inv (g := gNm 1) (b := l_law_3)
    (fun _ r => ∃ y1 y2 y3 y4 y5 y6 y7, r = [some (.val S), y1, y2, y3, y4, y5, y6, y7, none])
    ((rg t).map .int) 0 [some (.val S), none, none, none, none, none, none, none, none] ⟨none, none, none, none, none, none, none, rfl⟩
    (fun j d r hd ⟨x1, x2, x3, x4, x5, x6, x7, hr⟩ => by
      subst hr
      rw [List.getElem?_map] at hd
      obtain ⟨s, hj, rfl⟩ := Option.map_eq_some_iff.mp hd
      obtain ⟨s0, s1⟩ := rg_mem.mp (List.mem_of_getElem? hj)
      have ht : t ≤ 3 := by omega
      obtain ⟨k, rfl⟩ : ∃ k : Nat, s = k := ⟨s.toNat, by omega⟩
      obtain ⟨y2, y3, y4, y5, y6, y7, e⟩ := cells k (by omega) x2 x3 x4 x5 x6 x7
      exact ⟨_, _, rfl, e, _, y2, y3, y4, y5, y6, y7, rfl⟩)
  subst hr
  have hrange : mRng rng1 (mCons (mBlt bMax (mCons (Mi.ret (.int 1)) (mCons (mBlt bMin (mCons (mLenV 0) (mCons (Mi.ret (.int 3)) (mNil)))) (mNil)))) (mNil)) [some (.val S), none, none, none, none, none, none, none, none] = .ok ((rg t).map .int) [some (.val S), none, none, none, none, none, none, none, none] := by
    refine rngE (q := t) ?_ (by omega)
    have z : (if (if (3 : Int) < (ns.length : Int) then (3 : Int) else (ns.length : Int)) > 1 then (if (3 : Int) < (ns.length : Int) then (3 : Int) else (ns.length : Int)) else 1) = (t : Int) := by
      split <;> split at * <;> omega
    have z' : (if 1 < (if (3 : Int) < (ns.length : Int) then (3 : Int) else (ns.length : Int)) then (if (3 : Int) < (ns.length : Int) then (3 : Int) else (ns.length : Int)) else 1) = (t : Int) := z
    simp [S, intsD, z']
  have hb : b_law [some (.val S), none, none, none, none, none, none, none, none] = .rt (.cold (.bool true)) [some (.val S), y1, y2, y3, y4, y5, y6, y7, none] := by
    unfold b_law
    refine (seqNx (forS hrange lp)).trans ?_
    simp
  unfold f_law
  exact fnRt2 (by simp [S]) (by simp [S]) hb (by simp)
end K03
set_option maxHeartbeats 4000000
namespace K03
open PySem PySem.Spec PyProof.Rows L2 Dn Sh

theorem exmSelf {K : PySem.W.Frag} {C : Addr} {cls : Value} {b : Bool} (h1 : PySem.W.subIn K (.ref C) (.type "BaseException") = some true) (hd : PySem.W.hasDictIn K C = true) (ht : PySem.W.typeIn K (.ref C) = some (.type "type")) (h4 : PySem.W.subIn K cls (.ref C) = some b) : PySem.W.exmOne K cls (.ref C) = some b := PySem.W.exm_ref h1 hd ht h4
theorem at_is_number {K : PySem.W.Frag} {h : Heap} {mg : Str → Option Value} {f : Addr} {od an : Option Addr} {sl : Array (Option Value)} {oc kV dc pm cd ct : Value} (X : K.In h) (G : h.Ns mainGlobals mg) (a : PySem.W.nsIn K mainGlobals "is_number" = some (some (.ref f))) (lk : K.lookup f = some ⟨oc, od, .func (PySem.W.fnOf "is_number" "is_number" (defArgs s_is_number) (defBody s_is_number) (defScope s_is_number) .none kV dc pm an cd ct), sl⟩) (c : PySem.W.codeIn K cd "is_number" = true) (k : PySem.W.keepIn K (.ref f) = true) : At K mg "is_number" s_is_number ["thing"] f cd :=
  ⟨PySem.W.mg_of X G a, k, c, oc, kV, dc, pm, ct, an, od, sl, lk, .all (fun us hl => match us, hl with | [_], _ => rfl), fun s us hl => match us, hl with | [_], _ => .of_eq rfl⟩
theorem at_is_from {K : PySem.W.Frag} {h : Heap} {mg : Str → Option Value} {f : Addr} {od an : Option Addr} {sl : Array (Option Value)} {oc kV dc pm cd ct : Value} (X : K.In h) (G : h.Ns mainGlobals mg) (a : PySem.W.nsIn K mainGlobals "is_from" = some (some (.ref f))) (lk : K.lookup f = some ⟨oc, od, .func (PySem.W.fnOf "is_from" "is_from" (defArgs s_is_from) (defBody s_is_from) (defScope s_is_from) .none kV dc pm an cd ct), sl⟩) (c : PySem.W.codeIn K cd "is_from" = true) (k : PySem.W.keepIn K (.ref f) = true) : At K mg "is_from" s_is_from ["thing", "least", "most"] f cd :=
  ⟨PySem.W.mg_of X G a, k, c, oc, kV, dc, pm, ct, an, od, sl, lk, .all (fun us hl => match us, hl with | [_, _, _], _ => rfl), fun s us hl => match us, hl with | [_, _, _], _ => .of_eq rfl⟩
theorem at_is_index {K : PySem.W.Frag} {h : Heap} {mg : Str → Option Value} {f : Addr} {od an : Option Addr} {sl : Array (Option Value)} {oc kV dc pm cd ct : Value} (X : K.In h) (G : h.Ns mainGlobals mg) (a : PySem.W.nsIn K mainGlobals "is_index" = some (some (.ref f))) (lk : K.lookup f = some ⟨oc, od, .func (PySem.W.fnOf "is_index" "is_index" (defArgs s_is_index) (defBody s_is_index) (defScope s_is_index) .none kV dc pm an cd ct), sl⟩) (c : PySem.W.codeIn K cd "is_index" = true) (k : PySem.W.keepIn K (.ref f) = true) : At K mg "is_index" s_is_index ["thing", "many"] f cd :=
  ⟨PySem.W.mg_of X G a, k, c, oc, kV, dc, pm, ct, an, od, sl, lk, .all (fun us hl => match us, hl with | [_, _], _ => rfl), fun s us hl => match us, hl with | [_, _], _ => .of_eq rfl⟩
theorem at_is_tuple_of {K : PySem.W.Frag} {h : Heap} {mg : Str → Option Value} {f : Addr} {od an : Option Addr} {sl : Array (Option Value)} {oc kV dc pm cd ct : Value} (X : K.In h) (G : h.Ns mainGlobals mg) (a : PySem.W.nsIn K mainGlobals "is_tuple_of" = some (some (.ref f))) (lk : K.lookup f = some ⟨oc, od, .func (PySem.W.fnOf "is_tuple_of" "is_tuple_of" (defArgs s_is_tuple_of) (defBody s_is_tuple_of) (defScope s_is_tuple_of) .none kV dc pm an cd ct), sl⟩) (c : PySem.W.codeIn K cd "is_tuple_of" = true) (k : PySem.W.keepIn K (.ref f) = true) : At K mg "is_tuple_of" s_is_tuple_of ["thing", "least", "most"] f cd :=
  ⟨PySem.W.mg_of X G a, k, c, oc, kV, dc, pm, ct, an, od, sl, lk, .all (fun us hl => match us, hl with | [_, _, _], _ => rfl), fun s us hl => match us, hl with | [_, _, _], _ => .of_eq rfl⟩
theorem at_is_ascending {K : PySem.W.Frag} {h : Heap} {mg : Str → Option Value} {f : Addr} {od an : Option Addr} {sl : Array (Option Value)} {oc kV dc pm cd ct : Value} (X : K.In h) (G : h.Ns mainGlobals mg) (a : PySem.W.nsIn K mainGlobals "is_ascending" = some (some (.ref f))) (lk : K.lookup f = some ⟨oc, od, .func (PySem.W.fnOf "is_ascending" "is_ascending" (defArgs s_is_ascending) (defBody s_is_ascending) (defScope s_is_ascending) .none kV dc pm an cd ct), sl⟩) (c : PySem.W.codeIn K cd "is_ascending" = true) (k : PySem.W.keepIn K (.ref f) = true) : At K mg "is_ascending" s_is_ascending ["thing", "many"] f cd :=
  ⟨PySem.W.mg_of X G a, k, c, oc, kV, dc, pm, ct, an, od, sl, lk, .all (fun us hl => match us, hl with | [_, _], _ => rfl), fun s us hl => match us, hl with | [_, _], _ => .of_eq rfl⟩
theorem at_wrong_cures {K : PySem.W.Frag} {h : Heap} {mg : Str → Option Value} {f : Addr} {od an : Option Addr} {sl : Array (Option Value)} {oc kV dc pm cd ct : Value} (X : K.In h) (G : h.Ns mainGlobals mg) (a : PySem.W.nsIn K mainGlobals "wrong_cures" = some (some (.ref f))) (lk : K.lookup f = some ⟨oc, od, .func (PySem.W.fnOf "wrong_cures" "wrong_cures" (defArgs s_wrong_cures) (defBody s_wrong_cures) (defScope s_wrong_cures) .none kV dc pm an cd ct), sl⟩) (c : PySem.W.codeIn K cd "wrong_cures" = true) (k : PySem.W.keepIn K (.ref f) = true) : At K mg "wrong_cures" s_wrong_cures ["cures", "n", "q"] f cd :=
  ⟨PySem.W.mg_of X G a, k, c, oc, kV, dc, pm, ct, an, od, sl, lk, .all (fun us hl => match us, hl with | [_, _, _], _ => rfl), fun s us hl => match us, hl with | [_, _, _], _ => .of_eq rfl⟩
theorem at_are_signs {K : PySem.W.Frag} {h : Heap} {mg : Str → Option Value} {f : Addr} {od an : Option Addr} {sl : Array (Option Value)} {oc kV dc pm cd ct : Value} (X : K.In h) (G : h.Ns mainGlobals mg) (a : PySem.W.nsIn K mainGlobals "are_signs" = some (some (.ref f))) (lk : K.lookup f = some ⟨oc, od, .func (PySem.W.fnOf "are_signs" "are_signs" (defArgs s_are_signs) (defBody s_are_signs) (defScope s_are_signs) .none kV dc pm an cd ct), sl⟩) (c : PySem.W.codeIn K cd "are_signs" = true) (k : PySem.W.keepIn K (.ref f) = true) : At K mg "are_signs" s_are_signs ["entry", "n"] f cd :=
  ⟨PySem.W.mg_of X G a, k, c, oc, kV, dc, pm, ct, an, od, sl, lk, .all (fun us hl => match us, hl with | [_, _], _ => rfl), fun s us hl => match us, hl with | [_, _], _ => .of_eq rfl⟩
theorem at_wrong_signs {K : PySem.W.Frag} {h : Heap} {mg : Str → Option Value} {f : Addr} {od an : Option Addr} {sl : Array (Option Value)} {oc kV dc pm cd ct : Value} (X : K.In h) (G : h.Ns mainGlobals mg) (a : PySem.W.nsIn K mainGlobals "wrong_signs" = some (some (.ref f))) (lk : K.lookup f = some ⟨oc, od, .func (PySem.W.fnOf "wrong_signs" "wrong_signs" (defArgs s_wrong_signs) (defBody s_wrong_signs) (defScope s_wrong_signs) .none kV dc pm an cd ct), sl⟩) (c : PySem.W.codeIn K cd "wrong_signs" = true) (k : PySem.W.keepIn K (.ref f) = true) : At K mg "wrong_signs" s_wrong_signs ["signs", "n"] f cd :=
  ⟨PySem.W.mg_of X G a, k, c, oc, kV, dc, pm, ct, an, od, sl, lk, .all (fun us hl => match us, hl with | [_, _], _ => rfl), fun s us hl => match us, hl with | [_, _], _ => .of_eq rfl⟩
theorem at_wrong_moves {K : PySem.W.Frag} {h : Heap} {mg : Str → Option Value} {f : Addr} {od an : Option Addr} {sl : Array (Option Value)} {oc kV dc pm cd ct : Value} (X : K.In h) (G : h.Ns mainGlobals mg) (a : PySem.W.nsIn K mainGlobals "wrong_moves" = some (some (.ref f))) (lk : K.lookup f = some ⟨oc, od, .func (PySem.W.fnOf "wrong_moves" "wrong_moves" (defArgs s_wrong_moves) (defBody s_wrong_moves) (defScope s_wrong_moves) .none kV dc pm an cd ct), sl⟩) (c : PySem.W.codeIn K cd "wrong_moves" = true) (k : PySem.W.keepIn K (.ref f) = true) : At K mg "wrong_moves" s_wrong_moves ["moves", "settings"] f cd :=
  ⟨PySem.W.mg_of X G a, k, c, oc, kV, dc, pm, ct, an, od, sl, lk, .all (fun us hl => match us, hl with | [_, _], _ => rfl), fun s us hl => match us, hl with | [_, _], _ => .of_eq rfl⟩
theorem at_wrong_place {K : PySem.W.Frag} {h : Heap} {mg : Str → Option Value} {f : Addr} {od an : Option Addr} {sl : Array (Option Value)} {oc kV dc pm cd ct : Value} (X : K.In h) (G : h.Ns mainGlobals mg) (a : PySem.W.nsIn K mainGlobals "wrong_place" = some (some (.ref f))) (lk : K.lookup f = some ⟨oc, od, .func (PySem.W.fnOf "wrong_place" "wrong_place" (defArgs s_wrong_place) (defBody s_wrong_place) (defScope s_wrong_place) .none kV dc pm an cd ct), sl⟩) (c : PySem.W.codeIn K cd "wrong_place" = true) (k : PySem.W.keepIn K (.ref f) = true) : At K mg "wrong_place" s_wrong_place ["thing"] f cd :=
  ⟨PySem.W.mg_of X G a, k, c, oc, kV, dc, pm, ct, an, od, sl, lk, .all (fun us hl => match us, hl with | [_], _ => rfl), fun s us hl => match us, hl with | [_], _ => .of_eq rfl⟩
theorem at_made_rig {K : PySem.W.Frag} {h : Heap} {mg : Str → Option Value} {f : Addr} {od an : Option Addr} {sl : Array (Option Value)} {oc kV dc pm cd ct : Value} (X : K.In h) (G : h.Ns mainGlobals mg) (a : PySem.W.nsIn K mainGlobals "made_rig" = some (some (.ref f))) (lk : K.lookup f = some ⟨oc, od, .func (PySem.W.fnOf "made_rig" "made_rig" (defArgs s_made_rig) (defBody s_made_rig) (defScope s_made_rig) .none kV dc pm an cd ct), sl⟩) (c : PySem.W.codeIn K cd "made_rig" = true) (k : PySem.W.keepIn K (.ref f) = true) : At K mg "made_rig" s_made_rig ["thing"] f cd :=
  ⟨PySem.W.mg_of X G a, k, c, oc, kV, dc, pm, ct, an, od, sl, lk, .all (fun us hl => match us, hl with | [_], _ => rfl), fun s us hl => match us, hl with | [_], _ => .of_eq rfl⟩
theorem at_check_setting {K : PySem.W.Frag} {h : Heap} {mg : Str → Option Value} {f : Addr} {od an : Option Addr} {sl : Array (Option Value)} {oc kV dc pm cd ct : Value} (X : K.In h) (G : h.Ns mainGlobals mg) (a : PySem.W.nsIn K mainGlobals "check_setting" = some (some (.ref f))) (lk : K.lookup f = some ⟨oc, od, .func (PySem.W.fnOf "check_setting" "check_setting" (defArgs s_check_setting) (defBody s_check_setting) (defScope s_check_setting) .none kV dc pm an cd ct), sl⟩) (c : PySem.W.codeIn K cd "check_setting" = true) (k : PySem.W.keepIn K (.ref f) = true) : At K mg "check_setting" s_check_setting ["rig", "g"] f cd :=
  ⟨PySem.W.mg_of X G a, k, c, oc, kV, dc, pm, ct, an, od, sl, lk, .all (fun us hl => match us, hl with | [_, _], _ => rfl), fun s us hl => match us, hl with | [_, _], _ => .of_eq rfl⟩
theorem at_check_lot {K : PySem.W.Frag} {h : Heap} {mg : Str → Option Value} {f : Addr} {od an : Option Addr} {sl : Array (Option Value)} {oc kV dc pm cd ct : Value} (X : K.In h) (G : h.Ns mainGlobals mg) (a : PySem.W.nsIn K mainGlobals "check_lot" = some (some (.ref f))) (lk : K.lookup f = some ⟨oc, od, .func (PySem.W.fnOf "check_lot" "check_lot" (defArgs s_check_lot) (defBody s_check_lot) (defScope s_check_lot) .none kV dc pm an cd ct), sl⟩) (c : PySem.W.codeIn K cd "check_lot" = true) (k : PySem.W.keepIn K (.ref f) = true) : At K mg "check_lot" s_check_lot ["rig", "lot"] f cd :=
  ⟨PySem.W.mg_of X G a, k, c, oc, kV, dc, pm, ct, an, od, sl, lk, .all (fun us hl => match us, hl with | [_, _], _ => rfl), fun s us hl => match us, hl with | [_, _], _ => .of_eq rfl⟩
theorem at_check_rig_and_lot {K : PySem.W.Frag} {h : Heap} {mg : Str → Option Value} {f : Addr} {od an : Option Addr} {sl : Array (Option Value)} {oc kV dc pm cd ct : Value} (X : K.In h) (G : h.Ns mainGlobals mg) (a : PySem.W.nsIn K mainGlobals "check_rig_and_lot" = some (some (.ref f))) (lk : K.lookup f = some ⟨oc, od, .func (PySem.W.fnOf "check_rig_and_lot" "check_rig_and_lot" (defArgs s_check_rig_and_lot) (defBody s_check_rig_and_lot) (defScope s_check_rig_and_lot) .none kV dc pm an cd ct), sl⟩) (c : PySem.W.codeIn K cd "check_rig_and_lot" = true) (k : PySem.W.keepIn K (.ref f) = true) : At K mg "check_rig_and_lot" s_check_rig_and_lot ["rig", "lot"] f cd :=
  ⟨PySem.W.mg_of X G a, k, c, oc, kV, dc, pm, ct, an, od, sl, lk, .all (fun us hl => match us, hl with | [_, _], _ => rfl), fun s us hl => match us, hl with | [_, _], _ => .of_eq rfl⟩
theorem at_parts_at {K : PySem.W.Frag} {h : Heap} {mg : Str → Option Value} {f : Addr} {od an : Option Addr} {sl : Array (Option Value)} {oc kV dc pm cd ct : Value} (X : K.In h) (G : h.Ns mainGlobals mg) (a : PySem.W.nsIn K mainGlobals "parts_at" = some (some (.ref f))) (lk : K.lookup f = some ⟨oc, od, .func (PySem.W.fnOf "parts_at" "parts_at" (defArgs s_parts_at) (defBody s_parts_at) (defScope s_parts_at) .none kV dc pm an cd ct), sl⟩) (c : PySem.W.codeIn K cd "parts_at" = true) (k : PySem.W.keepIn K (.ref f) = true) : At K mg "parts_at" s_parts_at ["rig", "lot", "g"] f cd :=
  ⟨PySem.W.mg_of X G a, k, c, oc, kV, dc, pm, ct, an, od, sl, lk, .all (fun us hl => match us, hl with | [_, _, _], _ => rfl), fun s us hl => match us, hl with | [_, _, _], _ => .of_eq rfl⟩
theorem at_has_parts {K : PySem.W.Frag} {h : Heap} {mg : Str → Option Value} {f : Addr} {od an : Option Addr} {sl : Array (Option Value)} {oc kV dc pm cd ct : Value} (X : K.In h) (G : h.Ns mainGlobals mg) (a : PySem.W.nsIn K mainGlobals "has_parts" = some (some (.ref f))) (lk : K.lookup f = some ⟨oc, od, .func (PySem.W.fnOf "has_parts" "has_parts" (defArgs s_has_parts) (defBody s_has_parts) (defScope s_has_parts) .none kV dc pm an cd ct), sl⟩) (c : PySem.W.codeIn K cd "has_parts" = true) (k : PySem.W.keepIn K (.ref f) = true) : At K mg "has_parts" s_has_parts ["rig", "lot", "g"] f cd :=
  ⟨PySem.W.mg_of X G a, k, c, oc, kV, dc, pm, ct, an, od, sl, lk, .all (fun us hl => match us, hl with | [_, _, _], _ => rfl), fun s us hl => match us, hl with | [_, _, _], _ => .of_eq rfl⟩
theorem at_one_sign {K : PySem.W.Frag} {h : Heap} {mg : Str → Option Value} {f : Addr} {od an : Option Addr} {sl : Array (Option Value)} {oc kV dc pm cd ct : Value} (X : K.In h) (G : h.Ns mainGlobals mg) (a : PySem.W.nsIn K mainGlobals "one_sign" = some (some (.ref f))) (lk : K.lookup f = some ⟨oc, od, .func (PySem.W.fnOf "one_sign" "one_sign" (defArgs s_one_sign) (defBody s_one_sign) (defScope s_one_sign) .none kV dc pm an cd ct), sl⟩) (c : PySem.W.codeIn K cd "one_sign" = true) (k : PySem.W.keepIn K (.ref f) = true) : At K mg "one_sign" s_one_sign ["rig", "lot", "g"] f cd :=
  ⟨PySem.W.mg_of X G a, k, c, oc, kV, dc, pm, ct, an, od, sl, lk, .all (fun us hl => match us, hl with | [_, _, _], _ => rfl), fun s us hl => match us, hl with | [_, _, _], _ => .of_eq rfl⟩
theorem at_parted {K : PySem.W.Frag} {h : Heap} {mg : Str → Option Value} {f : Addr} {od an : Option Addr} {sl : Array (Option Value)} {oc kV dc pm cd ct : Value} (X : K.In h) (G : h.Ns mainGlobals mg) (a : PySem.W.nsIn K mainGlobals "parted" = some (some (.ref f))) (lk : K.lookup f = some ⟨oc, od, .func (PySem.W.fnOf "parted" "parted" (defArgs s_parted) (defBody s_parted) (defScope s_parted) .none kV dc pm an cd ct), sl⟩) (c : PySem.W.codeIn K cd "parted" = true) (k : PySem.W.keepIn K (.ref f) = true) : At K mg "parted" s_parted ["rig", "lot", "g"] f cd :=
  ⟨PySem.W.mg_of X G a, k, c, oc, kV, dc, pm, ct, an, od, sl, lk, .all (fun us hl => match us, hl with | [_, _, _], _ => rfl), fun s us hl => match us, hl with | [_, _, _], _ => .of_eq rfl⟩
theorem at_law_pool {K : PySem.W.Frag} {h : Heap} {mg : Str → Option Value} {f : Addr} {od an : Option Addr} {sl : Array (Option Value)} {oc kV dc pm cd ct : Value} (X : K.In h) (G : h.Ns mainGlobals mg) (a : PySem.W.nsIn K mainGlobals "_law_pool" = some (some (.ref f))) (lk : K.lookup f = some ⟨oc, od, .func (PySem.W.fnOf "_law_pool" "_law_pool" (defArgs s_law_pool) (defBody s_law_pool) (defScope s_law_pool) .none kV dc pm an cd ct), sl⟩) (c : PySem.W.codeIn K cd "_law_pool" = true) (k : PySem.W.keepIn K (.ref f) = true) : At K mg "_law_pool" s_law_pool ["_law_script", "_law_k"] f cd :=
  ⟨PySem.W.mg_of X G a, k, c, oc, kV, dc, pm, ct, an, od, sl, lk, .all (fun us hl => match us, hl with | [_, _], _ => rfl), fun s us hl => match us, hl with | [_, _], _ => .of_eq rfl⟩
theorem at_law_take {K : PySem.W.Frag} {h : Heap} {mg : Str → Option Value} {f : Addr} {od an : Option Addr} {sl : Array (Option Value)} {oc kV dc pm cd ct : Value} (X : K.In h) (G : h.Ns mainGlobals mg) (a : PySem.W.nsIn K mainGlobals "_law_take" = some (some (.ref f))) (lk : K.lookup f = some ⟨oc, od, .func (PySem.W.fnOf "_law_take" "_law_take" (defArgs s_law_take) (defBody s_law_take) (defScope s_law_take) .none kV dc pm an cd ct), sl⟩) (c : PySem.W.codeIn K cd "_law_take" = true) (k : PySem.W.keepIn K (.ref f) = true) : At K mg "_law_take" s_law_take ["_law_source", "_law_top"] f cd :=
  ⟨PySem.W.mg_of X G a, k, c, oc, kV, dc, pm, ct, an, od, sl, lk, .all (fun us hl => match us, hl with | [_, _], _ => rfl), fun s us hl => match us, hl with | [_, _], _ => .of_eq rfl⟩
theorem at_law_one {K : PySem.W.Frag} {h : Heap} {mg : Str → Option Value} {f : Addr} {od an : Option Addr} {sl : Array (Option Value)} {oc kV dc pm cd ct : Value} (X : K.In h) (G : h.Ns mainGlobals mg) (a : PySem.W.nsIn K mainGlobals "_law_one" = some (some (.ref f))) (lk : K.lookup f = some ⟨oc, od, .func (PySem.W.fnOf "_law_one" "_law_one" (defArgs s_law_one) (defBody s_law_one) (defScope s_law_one) .none kV dc pm an cd ct), sl⟩) (c : PySem.W.codeIn K cd "_law_one" = true) (k : PySem.W.keepIn K (.ref f) = true) : At K mg "_law_one" s_law_one ["_law_source", "_law_things"] f cd :=
  ⟨PySem.W.mg_of X G a, k, c, oc, kV, dc, pm, ct, an, od, sl, lk, .all (fun us hl => match us, hl with | [_, _], _ => rfl), fun s us hl => match us, hl with | [_, _], _ => .of_eq rfl⟩
theorem at_law_some {K : PySem.W.Frag} {h : Heap} {mg : Str → Option Value} {f : Addr} {od an : Option Addr} {sl : Array (Option Value)} {oc kV dc pm cd ct : Value} (X : K.In h) (G : h.Ns mainGlobals mg) (a : PySem.W.nsIn K mainGlobals "_law_some" = some (some (.ref f))) (lk : K.lookup f = some ⟨oc, od, .func (PySem.W.fnOf "_law_some" "_law_some" (defArgs s_law_some) (defBody s_law_some) (defScope s_law_some) .none kV dc pm an cd ct), sl⟩) (c : PySem.W.codeIn K cd "_law_some" = true) (k : PySem.W.keepIn K (.ref f) = true) : At K mg "_law_some" s_law_some ["_law_source", "_law_things"] f cd :=
  ⟨PySem.W.mg_of X G a, k, c, oc, kV, dc, pm, ct, an, od, sl, lk, .all (fun us hl => match us, hl with | [_, _], _ => rfl), fun s us hl => match us, hl with | [_, _], _ => .of_eq rfl⟩
theorem at_law_joined_moves {K : PySem.W.Frag} {h : Heap} {mg : Str → Option Value} {f : Addr} {od an : Option Addr} {sl : Array (Option Value)} {oc kV dc pm cd ct : Value} (X : K.In h) (G : h.Ns mainGlobals mg) (a : PySem.W.nsIn K mainGlobals "_law_joined_moves" = some (some (.ref f))) (lk : K.lookup f = some ⟨oc, od, .func (PySem.W.fnOf "_law_joined_moves" "_law_joined_moves" (defArgs s_law_joined_moves) (defBody s_law_joined_moves) (defScope s_law_joined_moves) .none kV dc pm an cd ct), sl⟩) (c : PySem.W.codeIn K cd "_law_joined_moves" = true) (k : PySem.W.keepIn K (.ref f) = true) : At K mg "_law_joined_moves" s_law_joined_moves ["_law_source", "_law_m"] f cd :=
  ⟨PySem.W.mg_of X G a, k, c, oc, kV, dc, pm, ct, an, od, sl, lk, .all (fun us hl => match us, hl with | [_, _], _ => rfl), fun s us hl => match us, hl with | [_, _], _ => .of_eq rfl⟩
theorem at_law_signs {K : PySem.W.Frag} {h : Heap} {mg : Str → Option Value} {f : Addr} {od an : Option Addr} {sl : Array (Option Value)} {oc kV dc pm cd ct : Value} (X : K.In h) (G : h.Ns mainGlobals mg) (a : PySem.W.nsIn K mainGlobals "_law_signs" = some (some (.ref f))) (lk : K.lookup f = some ⟨oc, od, .func (PySem.W.fnOf "_law_signs" "_law_signs" (defArgs s_law_signs) (defBody s_law_signs) (defScope s_law_signs) .none kV dc pm an cd ct), sl⟩) (c : PySem.W.codeIn K cd "_law_signs" = true) (k : PySem.W.keepIn K (.ref f) = true) : At K mg "_law_signs" s_law_signs ["_law_source", "_law_n", "_law_m"] f cd :=
  ⟨PySem.W.mg_of X G a, k, c, oc, kV, dc, pm, ct, an, od, sl, lk, .all (fun us hl => match us, hl with | [_, _, _], _ => rfl), fun s us hl => match us, hl with | [_, _, _], _ => .of_eq rfl⟩
theorem at_law_cures {K : PySem.W.Frag} {h : Heap} {mg : Str → Option Value} {f : Addr} {od an : Option Addr} {sl : Array (Option Value)} {oc kV dc pm cd ct : Value} (X : K.In h) (G : h.Ns mainGlobals mg) (a : PySem.W.nsIn K mainGlobals "_law_cures" = some (some (.ref f))) (lk : K.lookup f = some ⟨oc, od, .func (PySem.W.fnOf "_law_cures" "_law_cures" (defArgs s_law_cures) (defBody s_law_cures) (defScope s_law_cures) .none kV dc pm an cd ct), sl⟩) (c : PySem.W.codeIn K cd "_law_cures" = true) (k : PySem.W.keepIn K (.ref f) = true) : At K mg "_law_cures" s_law_cures ["_law_source", "_law_n", "_law_q"] f cd :=
  ⟨PySem.W.mg_of X G a, k, c, oc, kV, dc, pm, ct, an, od, sl, lk, .all (fun us hl => match us, hl with | [_, _, _], _ => rfl), fun s us hl => match us, hl with | [_, _, _], _ => .of_eq rfl⟩
theorem at_law_rig {K : PySem.W.Frag} {h : Heap} {mg : Str → Option Value} {f : Addr} {od an : Option Addr} {sl : Array (Option Value)} {oc kV dc pm cd ct : Value} (X : K.In h) (G : h.Ns mainGlobals mg) (a : PySem.W.nsIn K mainGlobals "_law_rig" = some (some (.ref f))) (lk : K.lookup f = some ⟨oc, od, .func (PySem.W.fnOf "_law_rig" "_law_rig" (defArgs s_law_rig) (defBody s_law_rig) (defScope s_law_rig) .none kV dc pm an cd ct), sl⟩) (c : PySem.W.codeIn K cd "_law_rig" = true) (k : PySem.W.keepIn K (.ref f) = true) : At K mg "_law_rig" s_law_rig ["_law_source", "_law_faults", "_law_settings"] f cd :=
  ⟨PySem.W.mg_of X G a, k, c, oc, kV, dc, pm, ct, an, od, sl, lk, .all (fun us hl => match us, hl with | [_, _, _], _ => rfl), fun s us hl => match us, hl with | [_, _, _], _ => .of_eq rfl⟩
theorem at_law_rig_of_all_sizes {K : PySem.W.Frag} {h : Heap} {mg : Str → Option Value} {f : Addr} {od an : Option Addr} {sl : Array (Option Value)} {oc kV dc pm cd ct : Value} (X : K.In h) (G : h.Ns mainGlobals mg) (a : PySem.W.nsIn K mainGlobals "_law_rig_of_all_sizes" = some (some (.ref f))) (lk : K.lookup f = some ⟨oc, od, .func (PySem.W.fnOf "_law_rig_of_all_sizes" "_law_rig_of_all_sizes" (defArgs s_law_rig_of_all_sizes) (defBody s_law_rig_of_all_sizes) (defScope s_law_rig_of_all_sizes) .none kV dc pm an cd ct), sl⟩) (c : PySem.W.codeIn K cd "_law_rig_of_all_sizes" = true) (k : PySem.W.keepIn K (.ref f) = true) : At K mg "_law_rig_of_all_sizes" s_law_rig_of_all_sizes ["_law_source"] f cd :=
  ⟨PySem.W.mg_of X G a, k, c, oc, kV, dc, pm, ct, an, od, sl, lk, .all (fun us hl => match us, hl with | [_], _ => rfl), fun s us hl => match us, hl with | [_], _ => .of_eq rfl⟩
theorem at_law_lots_asked {K : PySem.W.Frag} {h : Heap} {mg : Str → Option Value} {f : Addr} {od an : Option Addr} {sl : Array (Option Value)} {oc kV dc pm cd ct : Value} (X : K.In h) (G : h.Ns mainGlobals mg) (a : PySem.W.nsIn K mainGlobals "_law_lots_asked" = some (some (.ref f))) (lk : K.lookup f = some ⟨oc, od, .func (PySem.W.fnOf "_law_lots_asked" "_law_lots_asked" (defArgs s_law_lots_asked) (defBody s_law_lots_asked) (defScope s_law_lots_asked) .none kV dc pm an cd ct), sl⟩) (c : PySem.W.codeIn K cd "_law_lots_asked" = true) (k : PySem.W.keepIn K (.ref f) = true) : At K mg "_law_lots_asked" s_law_lots_asked ["_law_source", "_law_rig_here"] f cd :=
  ⟨PySem.W.mg_of X G a, k, c, oc, kV, dc, pm, ct, an, od, sl, lk, .all (fun us hl => match us, hl with | [_, _], _ => rfl), fun s us hl => match us, hl with | [_, _], _ => .of_eq rfl⟩
theorem at_law_shown_pairs {K : PySem.W.Frag} {h : Heap} {mg : Str → Option Value} {f : Addr} {od an : Option Addr} {sl : Array (Option Value)} {oc kV dc pm cd ct : Value} (X : K.In h) (G : h.Ns mainGlobals mg) (a : PySem.W.nsIn K mainGlobals "_law_shown_pairs" = some (some (.ref f))) (lk : K.lookup f = some ⟨oc, od, .func (PySem.W.fnOf "_law_shown_pairs" "_law_shown_pairs" (defArgs s_law_shown_pairs) (defBody s_law_shown_pairs) (defScope s_law_shown_pairs) .none kV dc pm an cd ct), sl⟩) (c : PySem.W.codeIn K cd "_law_shown_pairs" = true) (k : PySem.W.keepIn K (.ref f) = true) : At K mg "_law_shown_pairs" s_law_shown_pairs ["_law_rig_here", "_law_lot", "_law_g"] f cd :=
  ⟨PySem.W.mg_of X G a, k, c, oc, kV, dc, pm, ct, an, od, sl, lk, .all (fun us hl => match us, hl with | [_, _, _], _ => rfl), fun s us hl => match us, hl with | [_, _, _], _ => .of_eq rfl⟩
theorem at_law_lot_refused {K : PySem.W.Frag} {h : Heap} {mg : Str → Option Value} {f : Addr} {od an : Option Addr} {sl : Array (Option Value)} {oc kV dc pm cd ct : Value} (X : K.In h) (G : h.Ns mainGlobals mg) (a : PySem.W.nsIn K mainGlobals "_law_lot_refused" = some (some (.ref f))) (lk : K.lookup f = some ⟨oc, od, .func (PySem.W.fnOf "_law_lot_refused" "_law_lot_refused" (defArgs s_law_lot_refused) (defBody s_law_lot_refused) (defScope s_law_lot_refused) .none kV dc pm an cd ct), sl⟩) (c : PySem.W.codeIn K cd "_law_lot_refused" = true) (k : PySem.W.keepIn K (.ref f) = true) : At K mg "_law_lot_refused" s_law_lot_refused ["_law_asked"] f cd :=
  ⟨PySem.W.mg_of X G a, k, c, oc, kV, dc, pm, ct, an, od, sl, lk, .all (fun us hl => match us, hl with | [_], _ => rfl), fun s us hl => match us, hl with | [_], _ => .of_eq rfl⟩
theorem at_law_wrong_right {K : PySem.W.Frag} {h : Heap} {mg : Str → Option Value} {f : Addr} {od an : Option Addr} {sl : Array (Option Value)} {oc kV dc pm cd ct : Value} (X : K.In h) (G : h.Ns mainGlobals mg) (a : PySem.W.nsIn K mainGlobals "_law_wrong_right" = some (some (.ref f))) (lk : K.lookup f = some ⟨oc, od, .func (PySem.W.fnOf "_law_wrong_right" "_law_wrong_right" (defArgs s_law_wrong_right) (defBody s_law_wrong_right) (defScope s_law_wrong_right) .none kV dc pm an cd ct), sl⟩) (c : PySem.W.codeIn K cd "_law_wrong_right" = true) (k : PySem.W.keepIn K (.ref f) = true) : At K mg "_law_wrong_right" s_law_wrong_right ["_law_source", "_law_rig_here"] f cd :=
  ⟨PySem.W.mg_of X G a, k, c, oc, kV, dc, pm, ct, an, od, sl, lk, .all (fun us hl => match us, hl with | [_, _], _ => rfl), fun s us hl => match us, hl with | [_, _], _ => .of_eq rfl⟩
theorem at_law {K : PySem.W.Frag} {h : Heap} {mg : Str → Option Value} {f : Addr} {od an : Option Addr} {sl : Array (Option Value)} {oc kV dc pm cd ct : Value} (X : K.In h) (G : h.Ns mainGlobals mg) (a : PySem.W.nsIn K mainGlobals "law" = some (some (.ref f))) (lk : K.lookup f = some ⟨oc, od, .func (PySem.W.fnOf "law" "law" (defArgs s_law) (defBody s_law) (defScope s_law) .none kV dc pm an cd ct), sl⟩) (c : PySem.W.codeIn K cd "law" = true) (k : PySem.W.keepIn K (.ref f) = true) : At K mg "law" s_law ["_law_script"] f cd :=
  ⟨PySem.W.mg_of X G a, k, c, oc, kV, dc, pm, ct, an, od, sl, lk, .all (fun us hl => match us, hl with | [_], _ => rfl), fun s us hl => match us, hl with | [_], _ => .of_eq rfl⟩
theorem all_mk {l : PySem.W.OpenLaw} {w : World} {K : PySem.W.Frag} {h : Heap} {mg : Str → Option Value} {fa : Addr} (X : K.In h) (G : h.Ns mainGlobals mg) (hfa : mg "law" = some (.ref fa)) (TT : ∀ y ∈ (["_law_wrong_right"] : List Str), ∀ c P, PySem.W.tabIn K y = some (c, P) → PySem.W.CodeHd h c P ∧ h.get? P = some tabObj0)
    {C_Refused : Addr} {nm_Refused q_Refused : Str} {N_Refused : Addr} {bs_Refused : List Value} {sn_Refused : List Str} {sub_Refused : List Value} {ab_Refused : Bool} {col_Refused : Option Bool} {dd_Refused : Option Addr} {m0_Refused m1_Refused m3_Refused m5_Refused : Option Value} {kn_Refused : Str} {kt_Refused : Tok}
    {C_BadLot : Addr} {nm_BadLot q_BadLot : Str} {N_BadLot : Addr} {bs_BadLot : List Value} {sn_BadLot : List Str} {sub_BadLot : List Value} {ab_BadLot : Bool} {col_BadLot : Option Bool} {dd_BadLot : Option Addr} {m0_BadLot m1_BadLot m3_BadLot m5_BadLot : Option Value} {kn_BadLot : Str} {kt_BadLot : Tok}
    {C_BadRig : Addr} {nm_BadRig q_BadRig : Str} {N_BadRig : Addr} {bs_BadRig : List Value} {sn_BadRig : List Str} {sub_BadRig : List Value} {ab_BadRig : Bool} {col_BadRig : Option Bool} {dd_BadRig : Option Addr} {m0_BadRig m1_BadRig m3_BadRig m5_BadRig : Option Value} {kn_BadRig : Str} {kt_BadRig : Tok}
    {C_BadSetting : Addr} {nm_BadSetting q_BadSetting : Str} {N_BadSetting : Addr} {bs_BadSetting : List Value} {sn_BadSetting : List Str} {sub_BadSetting : List Value} {ab_BadSetting : Bool} {col_BadSetting : Option Bool} {dd_BadSetting : Option Addr} {m0_BadSetting m1_BadSetting m3_BadSetting m5_BadSetting : Option Value} {kn_BadSetting : Str} {kt_BadSetting : Tok}
    {fI : Addr} {odI anI : Option Addr} {slI : Array (Option Value)} {ocI dcI pmI cdI ctI : Value}
    {f_is_number_ : Addr} {od_is_number an_is_number : Option Addr} {sl_is_number : Array (Option Value)} {oc_is_number kV_is_number dc_is_number pm_is_number ct_is_number : Value} {cd_is_number : Value}
    {f_is_from_ : Addr} {od_is_from an_is_from : Option Addr} {sl_is_from : Array (Option Value)} {oc_is_from kV_is_from dc_is_from pm_is_from ct_is_from : Value} {cd_is_from : Value}
    {f_is_index_ : Addr} {od_is_index an_is_index : Option Addr} {sl_is_index : Array (Option Value)} {oc_is_index kV_is_index dc_is_index pm_is_index ct_is_index : Value} {cd_is_index : Value}
    {f_is_tuple_of_ : Addr} {od_is_tuple_of an_is_tuple_of : Option Addr} {sl_is_tuple_of : Array (Option Value)} {oc_is_tuple_of kV_is_tuple_of dc_is_tuple_of pm_is_tuple_of ct_is_tuple_of : Value} {cd_is_tuple_of : Value}
    {f_is_ascending_ : Addr} {od_is_ascending an_is_ascending : Option Addr} {sl_is_ascending : Array (Option Value)} {oc_is_ascending kV_is_ascending dc_is_ascending pm_is_ascending ct_is_ascending : Value} {cd_is_ascending : Value}
    {f_wrong_cures_ : Addr} {od_wrong_cures an_wrong_cures : Option Addr} {sl_wrong_cures : Array (Option Value)} {oc_wrong_cures kV_wrong_cures dc_wrong_cures pm_wrong_cures ct_wrong_cures : Value} {cd_wrong_cures : Value}
    {f_are_signs_ : Addr} {od_are_signs an_are_signs : Option Addr} {sl_are_signs : Array (Option Value)} {oc_are_signs kV_are_signs dc_are_signs pm_are_signs ct_are_signs : Value} {cd_are_signs : Value}
    {f_wrong_signs_ : Addr} {od_wrong_signs an_wrong_signs : Option Addr} {sl_wrong_signs : Array (Option Value)} {oc_wrong_signs kV_wrong_signs dc_wrong_signs pm_wrong_signs ct_wrong_signs : Value} {cd_wrong_signs : Value}
    {f_wrong_moves_ : Addr} {od_wrong_moves an_wrong_moves : Option Addr} {sl_wrong_moves : Array (Option Value)} {oc_wrong_moves kV_wrong_moves dc_wrong_moves pm_wrong_moves ct_wrong_moves : Value} {cd_wrong_moves : Value}
    {f_wrong_place_ : Addr} {od_wrong_place an_wrong_place : Option Addr} {sl_wrong_place : Array (Option Value)} {oc_wrong_place kV_wrong_place dc_wrong_place pm_wrong_place ct_wrong_place : Value} {cd_wrong_place : Value}
    {f_made_rig_ : Addr} {od_made_rig an_made_rig : Option Addr} {sl_made_rig : Array (Option Value)} {oc_made_rig kV_made_rig dc_made_rig pm_made_rig ct_made_rig : Value} {cd_made_rig : Value}
    {f_check_setting_ : Addr} {od_check_setting an_check_setting : Option Addr} {sl_check_setting : Array (Option Value)} {oc_check_setting kV_check_setting dc_check_setting pm_check_setting ct_check_setting : Value} {cd_check_setting : Value}
    {f_check_lot_ : Addr} {od_check_lot an_check_lot : Option Addr} {sl_check_lot : Array (Option Value)} {oc_check_lot kV_check_lot dc_check_lot pm_check_lot ct_check_lot : Value} {cd_check_lot : Value}
    {f_check_rig_and_lot_ : Addr} {od_check_rig_and_lot an_check_rig_and_lot : Option Addr} {sl_check_rig_and_lot : Array (Option Value)} {oc_check_rig_and_lot kV_check_rig_and_lot dc_check_rig_and_lot pm_check_rig_and_lot ct_check_rig_and_lot : Value} {cd_check_rig_and_lot : Value}
    {f_parts_at_ : Addr} {od_parts_at an_parts_at : Option Addr} {sl_parts_at : Array (Option Value)} {oc_parts_at kV_parts_at dc_parts_at pm_parts_at ct_parts_at : Value} {cd_parts_at : Value}
    {f_has_parts_ : Addr} {od_has_parts an_has_parts : Option Addr} {sl_has_parts : Array (Option Value)} {oc_has_parts kV_has_parts dc_has_parts pm_has_parts ct_has_parts : Value} {cd_has_parts : Value}
    {f_one_sign_ : Addr} {od_one_sign an_one_sign : Option Addr} {sl_one_sign : Array (Option Value)} {oc_one_sign kV_one_sign dc_one_sign pm_one_sign ct_one_sign : Value} {cd_one_sign : Value}
    {f_parted_ : Addr} {od_parted an_parted : Option Addr} {sl_parted : Array (Option Value)} {oc_parted kV_parted dc_parted pm_parted ct_parted : Value} {cd_parted : Value}
    {f_law_pool_ : Addr} {od_law_pool an_law_pool : Option Addr} {sl_law_pool : Array (Option Value)} {oc_law_pool kV_law_pool dc_law_pool pm_law_pool ct_law_pool : Value} {cd_law_pool : Value}
    {f_law_take_ : Addr} {od_law_take an_law_take : Option Addr} {sl_law_take : Array (Option Value)} {oc_law_take kV_law_take dc_law_take pm_law_take ct_law_take : Value} {cd_law_take : Value}
    {f_law_one_ : Addr} {od_law_one an_law_one : Option Addr} {sl_law_one : Array (Option Value)} {oc_law_one kV_law_one dc_law_one pm_law_one ct_law_one : Value} {cd_law_one : Value}
    {f_law_some_ : Addr} {od_law_some an_law_some : Option Addr} {sl_law_some : Array (Option Value)} {oc_law_some kV_law_some dc_law_some pm_law_some ct_law_some : Value} {cd_law_some : Value}
    {f_law_joined_moves_ : Addr} {od_law_joined_moves an_law_joined_moves : Option Addr} {sl_law_joined_moves : Array (Option Value)} {oc_law_joined_moves kV_law_joined_moves dc_law_joined_moves pm_law_joined_moves ct_law_joined_moves : Value} {cd_law_joined_moves : Value}
    {f_law_signs_ : Addr} {od_law_signs an_law_signs : Option Addr} {sl_law_signs : Array (Option Value)} {oc_law_signs kV_law_signs dc_law_signs pm_law_signs ct_law_signs : Value} {cd_law_signs : Value}
    {f_law_cures_ : Addr} {od_law_cures an_law_cures : Option Addr} {sl_law_cures : Array (Option Value)} {oc_law_cures kV_law_cures dc_law_cures pm_law_cures ct_law_cures : Value} {cd_law_cures : Value}
    {f_law_rig_ : Addr} {od_law_rig an_law_rig : Option Addr} {sl_law_rig : Array (Option Value)} {oc_law_rig kV_law_rig dc_law_rig pm_law_rig ct_law_rig : Value} {cd_law_rig : Value}
    {f_law_rig_of_all_sizes_ : Addr} {od_law_rig_of_all_sizes an_law_rig_of_all_sizes : Option Addr} {sl_law_rig_of_all_sizes : Array (Option Value)} {oc_law_rig_of_all_sizes kV_law_rig_of_all_sizes dc_law_rig_of_all_sizes pm_law_rig_of_all_sizes ct_law_rig_of_all_sizes : Value} {cd_law_rig_of_all_sizes : Value}
    {f_law_lots_asked_ : Addr} {od_law_lots_asked an_law_lots_asked : Option Addr} {sl_law_lots_asked : Array (Option Value)} {oc_law_lots_asked kV_law_lots_asked dc_law_lots_asked pm_law_lots_asked ct_law_lots_asked : Value} {cd_law_lots_asked : Value}
    {f_law_shown_pairs_ : Addr} {od_law_shown_pairs an_law_shown_pairs : Option Addr} {sl_law_shown_pairs : Array (Option Value)} {oc_law_shown_pairs kV_law_shown_pairs dc_law_shown_pairs pm_law_shown_pairs ct_law_shown_pairs : Value} {cd_law_shown_pairs : Value}
    {f_law_lot_refused_ : Addr} {od_law_lot_refused an_law_lot_refused : Option Addr} {sl_law_lot_refused : Array (Option Value)} {oc_law_lot_refused kV_law_lot_refused dc_law_lot_refused pm_law_lot_refused ct_law_lot_refused : Value} {cd_law_lot_refused : Value}
    {f_law_wrong_right_ : Addr} {od_law_wrong_right an_law_wrong_right : Option Addr} {sl_law_wrong_right : Array (Option Value)} {oc_law_wrong_right kV_law_wrong_right dc_law_wrong_right pm_law_wrong_right ct_law_wrong_right : Value} {c0_law_wrong_right P_law_wrong_right : Addr}
    {ec_law_wrong_right : Value} {edd_law_wrong_right : Option Addr} {evs_law_wrong_right : Array Value} {esl_law_wrong_right : Array (Option Value)}
    {f_law_ : Addr} {od_law an_law : Option Addr} {sl_law : Array (Option Value)} {oc_law kV_law dc_law pm_law ct_law : Value} {cd_law : Value}
    {t_CURES : Tok}
    {t_FAULTS : Tok}
    {t_GREATEST_SIGN : Tok}
    {t_MOST_FAULTS : Tok}
    {t_MOST_MOVES : Tok}
    {t_MOST_REMEDIES : Tok}
    {t_MOST_SETTINGS : Tok}
    {t_MOVES : Tok}
    {t_REMEDIES : Tok}
    {t_SIGNS : Tok}
    (aC_Refused : PySem.W.nsIn K mainGlobals "Refused" = some (some (.ref C_Refused)))
    (xL_Refused : K.lookup C_Refused = some (excClassObj nm_Refused q_Refused C_Refused N_Refused bs_Refused [.type "ValueError", .type "Exception", .type "BaseException", .type "object"] true sn_Refused sub_Refused ab_Refused col_Refused dd_Refused m0_Refused m1_Refused (some (Value.str kn_Refused kt_Refused)) m3_Refused m5_Refused "ValueError.__new__"))
    (sa_Refused : PySem.W.findIn K (.ref C_Refused) "__setattr__" = some (some (.builtin "object.__setattr__")))
    (ga_Refused : PySem.W.findIn K (.ref C_Refused) "__getattribute__" = some (some (.builtin "BaseException.__getattribute__")))
    (gg_Refused : PySem.W.findIn K (.ref C_Refused) "__getattr__" = some none)
    (nb_Refused : PySem.W.findIn K (.ref C_Refused) "what" = some none)
    (nk_Refused : PySem.W.findIn K (.ref C_Refused) "kind" = some none)
    (rk_Refused : PySem.W.readsIn K C_Refused (.type "type") = true)
    (fk_Refused : PySem.W.findCls K (.ref C_Refused) (.type "type") "__name__" = some (.get (.builtin "getset_descriptor.__get__") (.builtin "type.__name__") (.ref C_Refused) (.type "type")))
    (iI_Refused : PySem.W.findIn K (.ref C_Refused) "__init__" = some (some (.ref fI)))
    (kC_Refused : PySem.W.keepIn K (.ref C_Refused) = true)
    (eC_Refused : PySem.W.subIn K (.ref C_Refused) (.type "BaseException") = some true)
    (tC_Refused : PySem.W.typeIn K (.ref C_Refused) = some (.type "type"))
    (hC_Refused : PySem.W.hasDictIn K C_Refused = true)
    (sC_Refused : PySem.W.subIn K (.ref C_Refused) (.ref C_Refused) = some true)
    (cl_Refused : PySem.W.findIn K (.ref C_Refused) "__class__" = some (some (.builtin "object.__class__")))
    (mo_Refused : PySem.W.mroIn K C_Refused (.type "object") = some true)
    (tI : PySem.W.typeIn K (.ref fI) = some (.type "function"))
    (lI : K.lookup fI = some ⟨ocI, odI, .func (PySem.W.fnOf "__init__" "Refused.__init__" (PySem.WhX.iA ⟨4, 17, 4, 21⟩ ⟨4, 23, 4, 27⟩) (PySem.WhX.iB ⟨5, 8, 5, 12⟩ ⟨5, 8, 5, 17⟩ ⟨5, 20, 5, 24⟩ ⟨5, 8, 5, 24⟩ ⟨6, 8, 6, 12⟩ ⟨6, 8, 6, 17⟩ ⟨6, 20, 6, 24⟩ ⟨6, 20, 6, 34⟩ ⟨6, 20, 6, 43⟩ ⟨6, 8, 6, 43⟩) PySem.WhX.iS .none .none dcI pmI anI cdI ctI), slI⟩)
    (cI : PySem.W.codeIn K cdI "Refused.__init__" = true)
    (aC_BadLot : PySem.W.nsIn K mainGlobals "BadLot" = some (some (.ref C_BadLot)))
    (xL_BadLot : K.lookup C_BadLot = some (excClassObj nm_BadLot q_BadLot C_BadLot N_BadLot bs_BadLot [.ref C_Refused, .type "ValueError", .type "Exception", .type "BaseException", .type "object"] true sn_BadLot sub_BadLot ab_BadLot col_BadLot dd_BadLot m0_BadLot m1_BadLot (some (Value.str kn_BadLot kt_BadLot)) m3_BadLot m5_BadLot "ValueError.__new__"))
    (sa_BadLot : PySem.W.findIn K (.ref C_BadLot) "__setattr__" = some (some (.builtin "object.__setattr__")))
    (ga_BadLot : PySem.W.findIn K (.ref C_BadLot) "__getattribute__" = some (some (.builtin "BaseException.__getattribute__")))
    (gg_BadLot : PySem.W.findIn K (.ref C_BadLot) "__getattr__" = some none)
    (nb_BadLot : PySem.W.findIn K (.ref C_BadLot) "what" = some none)
    (nk_BadLot : PySem.W.findIn K (.ref C_BadLot) "kind" = some none)
    (rk_BadLot : PySem.W.readsIn K C_BadLot (.type "type") = true)
    (fk_BadLot : PySem.W.findCls K (.ref C_BadLot) (.type "type") "__name__" = some (.get (.builtin "getset_descriptor.__get__") (.builtin "type.__name__") (.ref C_BadLot) (.type "type")))
    (iI_BadLot : PySem.W.findIn K (.ref C_BadLot) "__init__" = some (some (.ref fI)))
    (kC_BadLot : PySem.W.keepIn K (.ref C_BadLot) = true)
    (eC_BadLot : PySem.W.subIn K (.ref C_BadLot) (.type "BaseException") = some true)
    (tC_BadLot : PySem.W.typeIn K (.ref C_BadLot) = some (.type "type"))
    (hC_BadLot : PySem.W.hasDictIn K C_BadLot = true)
    (sC_BadLot : PySem.W.subIn K (.ref C_BadLot) (.ref C_BadLot) = some true)
    (cl_BadLot : PySem.W.findIn K (.ref C_BadLot) "__class__" = some (some (.builtin "object.__class__")))
    (mo_BadLot : PySem.W.mroIn K C_BadLot (.type "object") = some true)
    (aC_BadRig : PySem.W.nsIn K mainGlobals "BadRig" = some (some (.ref C_BadRig)))
    (xL_BadRig : K.lookup C_BadRig = some (excClassObj nm_BadRig q_BadRig C_BadRig N_BadRig bs_BadRig [.ref C_Refused, .type "ValueError", .type "Exception", .type "BaseException", .type "object"] true sn_BadRig sub_BadRig ab_BadRig col_BadRig dd_BadRig m0_BadRig m1_BadRig (some (Value.str kn_BadRig kt_BadRig)) m3_BadRig m5_BadRig "ValueError.__new__"))
    (sa_BadRig : PySem.W.findIn K (.ref C_BadRig) "__setattr__" = some (some (.builtin "object.__setattr__")))
    (ga_BadRig : PySem.W.findIn K (.ref C_BadRig) "__getattribute__" = some (some (.builtin "BaseException.__getattribute__")))
    (gg_BadRig : PySem.W.findIn K (.ref C_BadRig) "__getattr__" = some none)
    (nb_BadRig : PySem.W.findIn K (.ref C_BadRig) "what" = some none)
    (nk_BadRig : PySem.W.findIn K (.ref C_BadRig) "kind" = some none)
    (rk_BadRig : PySem.W.readsIn K C_BadRig (.type "type") = true)
    (fk_BadRig : PySem.W.findCls K (.ref C_BadRig) (.type "type") "__name__" = some (.get (.builtin "getset_descriptor.__get__") (.builtin "type.__name__") (.ref C_BadRig) (.type "type")))
    (iI_BadRig : PySem.W.findIn K (.ref C_BadRig) "__init__" = some (some (.ref fI)))
    (kC_BadRig : PySem.W.keepIn K (.ref C_BadRig) = true)
    (eC_BadRig : PySem.W.subIn K (.ref C_BadRig) (.type "BaseException") = some true)
    (tC_BadRig : PySem.W.typeIn K (.ref C_BadRig) = some (.type "type"))
    (hC_BadRig : PySem.W.hasDictIn K C_BadRig = true)
    (sC_BadRig : PySem.W.subIn K (.ref C_BadRig) (.ref C_BadRig) = some true)
    (cl_BadRig : PySem.W.findIn K (.ref C_BadRig) "__class__" = some (some (.builtin "object.__class__")))
    (mo_BadRig : PySem.W.mroIn K C_BadRig (.type "object") = some true)
    (aC_BadSetting : PySem.W.nsIn K mainGlobals "BadSetting" = some (some (.ref C_BadSetting)))
    (xL_BadSetting : K.lookup C_BadSetting = some (excClassObj nm_BadSetting q_BadSetting C_BadSetting N_BadSetting bs_BadSetting [.ref C_Refused, .type "ValueError", .type "Exception", .type "BaseException", .type "object"] true sn_BadSetting sub_BadSetting ab_BadSetting col_BadSetting dd_BadSetting m0_BadSetting m1_BadSetting (some (Value.str kn_BadSetting kt_BadSetting)) m3_BadSetting m5_BadSetting "ValueError.__new__"))
    (sa_BadSetting : PySem.W.findIn K (.ref C_BadSetting) "__setattr__" = some (some (.builtin "object.__setattr__")))
    (ga_BadSetting : PySem.W.findIn K (.ref C_BadSetting) "__getattribute__" = some (some (.builtin "BaseException.__getattribute__")))
    (gg_BadSetting : PySem.W.findIn K (.ref C_BadSetting) "__getattr__" = some none)
    (nb_BadSetting : PySem.W.findIn K (.ref C_BadSetting) "what" = some none)
    (nk_BadSetting : PySem.W.findIn K (.ref C_BadSetting) "kind" = some none)
    (rk_BadSetting : PySem.W.readsIn K C_BadSetting (.type "type") = true)
    (fk_BadSetting : PySem.W.findCls K (.ref C_BadSetting) (.type "type") "__name__" = some (.get (.builtin "getset_descriptor.__get__") (.builtin "type.__name__") (.ref C_BadSetting) (.type "type")))
    (iI_BadSetting : PySem.W.findIn K (.ref C_BadSetting) "__init__" = some (some (.ref fI)))
    (kC_BadSetting : PySem.W.keepIn K (.ref C_BadSetting) = true)
    (eC_BadSetting : PySem.W.subIn K (.ref C_BadSetting) (.type "BaseException") = some true)
    (tC_BadSetting : PySem.W.typeIn K (.ref C_BadSetting) = some (.type "type"))
    (hC_BadSetting : PySem.W.hasDictIn K C_BadSetting = true)
    (sC_BadSetting : PySem.W.subIn K (.ref C_BadSetting) (.ref C_BadSetting) = some true)
    (cl_BadSetting : PySem.W.findIn K (.ref C_BadSetting) "__class__" = some (some (.builtin "object.__class__")))
    (mo_BadSetting : PySem.W.mroIn K C_BadSetting (.type "object") = some true)
    (sp1 : PySem.W.specialIn K (.builtin "object.__class__") "__get__" = some (some (.builtin "getset_descriptor.__get__")))
    (sp2 : PySem.W.takesIn K (.builtin "object.__class__") = some true)
    (su_BadLot_BadLot : PySem.W.subIn K (.ref C_BadLot) (.ref C_BadLot) = some true)
    (ki_BadLot_BadLot : PySem.W.kitOne K (.ref C_BadLot) (.ref C_BadLot) = some true)
    (su_BadLot_BadSetting : PySem.W.subIn K (.ref C_BadLot) (.ref C_BadSetting) = some false)
    (ki_BadLot_BadSetting : PySem.W.kitOne K (.ref C_BadLot) (.ref C_BadSetting) = some false)
    (su_BadLot_Refused : PySem.W.subIn K (.ref C_BadLot) (.ref C_Refused) = some true)
    (ki_BadLot_Refused : PySem.W.kitOne K (.ref C_BadLot) (.ref C_Refused) = some true)
    (su_BadRig_BadLot : PySem.W.subIn K (.ref C_BadRig) (.ref C_BadLot) = some false)
    (ki_BadRig_BadLot : PySem.W.kitOne K (.ref C_BadRig) (.ref C_BadLot) = some false)
    (su_BadRig_BadSetting : PySem.W.subIn K (.ref C_BadRig) (.ref C_BadSetting) = some false)
    (ki_BadRig_BadSetting : PySem.W.kitOne K (.ref C_BadRig) (.ref C_BadSetting) = some false)
    (su_BadRig_Refused : PySem.W.subIn K (.ref C_BadRig) (.ref C_Refused) = some true)
    (ki_BadRig_Refused : PySem.W.kitOne K (.ref C_BadRig) (.ref C_Refused) = some true)
    (su_BadSetting_BadLot : PySem.W.subIn K (.ref C_BadSetting) (.ref C_BadLot) = some false)
    (ki_BadSetting_BadLot : PySem.W.kitOne K (.ref C_BadSetting) (.ref C_BadLot) = some false)
    (su_BadSetting_BadSetting : PySem.W.subIn K (.ref C_BadSetting) (.ref C_BadSetting) = some true)
    (ki_BadSetting_BadSetting : PySem.W.kitOne K (.ref C_BadSetting) (.ref C_BadSetting) = some true)
    (su_BadSetting_Refused : PySem.W.subIn K (.ref C_BadSetting) (.ref C_Refused) = some true)
    (ki_BadSetting_Refused : PySem.W.kitOne K (.ref C_BadSetting) (.ref C_Refused) = some true)
    (a_is_number : PySem.W.nsIn K mainGlobals "is_number" = some (some (.ref f_is_number_)))
    (l_is_number : K.lookup f_is_number_ = some ⟨oc_is_number, od_is_number, .func (PySem.W.fnOf "is_number" "is_number" (defArgs s_is_number) (defBody s_is_number) (defScope s_is_number) .none kV_is_number dc_is_number pm_is_number an_is_number cd_is_number ct_is_number), sl_is_number⟩)
    (c_is_number : PySem.W.codeIn K cd_is_number "is_number" = true)
    (k_is_number : PySem.W.keepIn K (.ref f_is_number_) = true)
    (a_is_from : PySem.W.nsIn K mainGlobals "is_from" = some (some (.ref f_is_from_)))
    (l_is_from : K.lookup f_is_from_ = some ⟨oc_is_from, od_is_from, .func (PySem.W.fnOf "is_from" "is_from" (defArgs s_is_from) (defBody s_is_from) (defScope s_is_from) .none kV_is_from dc_is_from pm_is_from an_is_from cd_is_from ct_is_from), sl_is_from⟩)
    (c_is_from : PySem.W.codeIn K cd_is_from "is_from" = true)
    (k_is_from : PySem.W.keepIn K (.ref f_is_from_) = true)
    (a_is_index : PySem.W.nsIn K mainGlobals "is_index" = some (some (.ref f_is_index_)))
    (l_is_index : K.lookup f_is_index_ = some ⟨oc_is_index, od_is_index, .func (PySem.W.fnOf "is_index" "is_index" (defArgs s_is_index) (defBody s_is_index) (defScope s_is_index) .none kV_is_index dc_is_index pm_is_index an_is_index cd_is_index ct_is_index), sl_is_index⟩)
    (c_is_index : PySem.W.codeIn K cd_is_index "is_index" = true)
    (k_is_index : PySem.W.keepIn K (.ref f_is_index_) = true)
    (a_is_tuple_of : PySem.W.nsIn K mainGlobals "is_tuple_of" = some (some (.ref f_is_tuple_of_)))
    (l_is_tuple_of : K.lookup f_is_tuple_of_ = some ⟨oc_is_tuple_of, od_is_tuple_of, .func (PySem.W.fnOf "is_tuple_of" "is_tuple_of" (defArgs s_is_tuple_of) (defBody s_is_tuple_of) (defScope s_is_tuple_of) .none kV_is_tuple_of dc_is_tuple_of pm_is_tuple_of an_is_tuple_of cd_is_tuple_of ct_is_tuple_of), sl_is_tuple_of⟩)
    (c_is_tuple_of : PySem.W.codeIn K cd_is_tuple_of "is_tuple_of" = true)
    (k_is_tuple_of : PySem.W.keepIn K (.ref f_is_tuple_of_) = true)
    (a_is_ascending : PySem.W.nsIn K mainGlobals "is_ascending" = some (some (.ref f_is_ascending_)))
    (l_is_ascending : K.lookup f_is_ascending_ = some ⟨oc_is_ascending, od_is_ascending, .func (PySem.W.fnOf "is_ascending" "is_ascending" (defArgs s_is_ascending) (defBody s_is_ascending) (defScope s_is_ascending) .none kV_is_ascending dc_is_ascending pm_is_ascending an_is_ascending cd_is_ascending ct_is_ascending), sl_is_ascending⟩)
    (c_is_ascending : PySem.W.codeIn K cd_is_ascending "is_ascending" = true)
    (k_is_ascending : PySem.W.keepIn K (.ref f_is_ascending_) = true)
    (a_wrong_cures : PySem.W.nsIn K mainGlobals "wrong_cures" = some (some (.ref f_wrong_cures_)))
    (l_wrong_cures : K.lookup f_wrong_cures_ = some ⟨oc_wrong_cures, od_wrong_cures, .func (PySem.W.fnOf "wrong_cures" "wrong_cures" (defArgs s_wrong_cures) (defBody s_wrong_cures) (defScope s_wrong_cures) .none kV_wrong_cures dc_wrong_cures pm_wrong_cures an_wrong_cures cd_wrong_cures ct_wrong_cures), sl_wrong_cures⟩)
    (c_wrong_cures : PySem.W.codeIn K cd_wrong_cures "wrong_cures" = true)
    (k_wrong_cures : PySem.W.keepIn K (.ref f_wrong_cures_) = true)
    (a_are_signs : PySem.W.nsIn K mainGlobals "are_signs" = some (some (.ref f_are_signs_)))
    (l_are_signs : K.lookup f_are_signs_ = some ⟨oc_are_signs, od_are_signs, .func (PySem.W.fnOf "are_signs" "are_signs" (defArgs s_are_signs) (defBody s_are_signs) (defScope s_are_signs) .none kV_are_signs dc_are_signs pm_are_signs an_are_signs cd_are_signs ct_are_signs), sl_are_signs⟩)
    (c_are_signs : PySem.W.codeIn K cd_are_signs "are_signs" = true)
    (k_are_signs : PySem.W.keepIn K (.ref f_are_signs_) = true)
    (a_wrong_signs : PySem.W.nsIn K mainGlobals "wrong_signs" = some (some (.ref f_wrong_signs_)))
    (l_wrong_signs : K.lookup f_wrong_signs_ = some ⟨oc_wrong_signs, od_wrong_signs, .func (PySem.W.fnOf "wrong_signs" "wrong_signs" (defArgs s_wrong_signs) (defBody s_wrong_signs) (defScope s_wrong_signs) .none kV_wrong_signs dc_wrong_signs pm_wrong_signs an_wrong_signs cd_wrong_signs ct_wrong_signs), sl_wrong_signs⟩)
    (c_wrong_signs : PySem.W.codeIn K cd_wrong_signs "wrong_signs" = true)
    (k_wrong_signs : PySem.W.keepIn K (.ref f_wrong_signs_) = true)
    (a_wrong_moves : PySem.W.nsIn K mainGlobals "wrong_moves" = some (some (.ref f_wrong_moves_)))
    (l_wrong_moves : K.lookup f_wrong_moves_ = some ⟨oc_wrong_moves, od_wrong_moves, .func (PySem.W.fnOf "wrong_moves" "wrong_moves" (defArgs s_wrong_moves) (defBody s_wrong_moves) (defScope s_wrong_moves) .none kV_wrong_moves dc_wrong_moves pm_wrong_moves an_wrong_moves cd_wrong_moves ct_wrong_moves), sl_wrong_moves⟩)
    (c_wrong_moves : PySem.W.codeIn K cd_wrong_moves "wrong_moves" = true)
    (k_wrong_moves : PySem.W.keepIn K (.ref f_wrong_moves_) = true)
    (a_wrong_place : PySem.W.nsIn K mainGlobals "wrong_place" = some (some (.ref f_wrong_place_)))
    (l_wrong_place : K.lookup f_wrong_place_ = some ⟨oc_wrong_place, od_wrong_place, .func (PySem.W.fnOf "wrong_place" "wrong_place" (defArgs s_wrong_place) (defBody s_wrong_place) (defScope s_wrong_place) .none kV_wrong_place dc_wrong_place pm_wrong_place an_wrong_place cd_wrong_place ct_wrong_place), sl_wrong_place⟩)
    (c_wrong_place : PySem.W.codeIn K cd_wrong_place "wrong_place" = true)
    (k_wrong_place : PySem.W.keepIn K (.ref f_wrong_place_) = true)
    (a_made_rig : PySem.W.nsIn K mainGlobals "made_rig" = some (some (.ref f_made_rig_)))
    (l_made_rig : K.lookup f_made_rig_ = some ⟨oc_made_rig, od_made_rig, .func (PySem.W.fnOf "made_rig" "made_rig" (defArgs s_made_rig) (defBody s_made_rig) (defScope s_made_rig) .none kV_made_rig dc_made_rig pm_made_rig an_made_rig cd_made_rig ct_made_rig), sl_made_rig⟩)
    (c_made_rig : PySem.W.codeIn K cd_made_rig "made_rig" = true)
    (k_made_rig : PySem.W.keepIn K (.ref f_made_rig_) = true)
    (a_check_setting : PySem.W.nsIn K mainGlobals "check_setting" = some (some (.ref f_check_setting_)))
    (l_check_setting : K.lookup f_check_setting_ = some ⟨oc_check_setting, od_check_setting, .func (PySem.W.fnOf "check_setting" "check_setting" (defArgs s_check_setting) (defBody s_check_setting) (defScope s_check_setting) .none kV_check_setting dc_check_setting pm_check_setting an_check_setting cd_check_setting ct_check_setting), sl_check_setting⟩)
    (c_check_setting : PySem.W.codeIn K cd_check_setting "check_setting" = true)
    (k_check_setting : PySem.W.keepIn K (.ref f_check_setting_) = true)
    (a_check_lot : PySem.W.nsIn K mainGlobals "check_lot" = some (some (.ref f_check_lot_)))
    (l_check_lot : K.lookup f_check_lot_ = some ⟨oc_check_lot, od_check_lot, .func (PySem.W.fnOf "check_lot" "check_lot" (defArgs s_check_lot) (defBody s_check_lot) (defScope s_check_lot) .none kV_check_lot dc_check_lot pm_check_lot an_check_lot cd_check_lot ct_check_lot), sl_check_lot⟩)
    (c_check_lot : PySem.W.codeIn K cd_check_lot "check_lot" = true)
    (k_check_lot : PySem.W.keepIn K (.ref f_check_lot_) = true)
    (a_check_rig_and_lot : PySem.W.nsIn K mainGlobals "check_rig_and_lot" = some (some (.ref f_check_rig_and_lot_)))
    (l_check_rig_and_lot : K.lookup f_check_rig_and_lot_ = some ⟨oc_check_rig_and_lot, od_check_rig_and_lot, .func (PySem.W.fnOf "check_rig_and_lot" "check_rig_and_lot" (defArgs s_check_rig_and_lot) (defBody s_check_rig_and_lot) (defScope s_check_rig_and_lot) .none kV_check_rig_and_lot dc_check_rig_and_lot pm_check_rig_and_lot an_check_rig_and_lot cd_check_rig_and_lot ct_check_rig_and_lot), sl_check_rig_and_lot⟩)
    (c_check_rig_and_lot : PySem.W.codeIn K cd_check_rig_and_lot "check_rig_and_lot" = true)
    (k_check_rig_and_lot : PySem.W.keepIn K (.ref f_check_rig_and_lot_) = true)
    (a_parts_at : PySem.W.nsIn K mainGlobals "parts_at" = some (some (.ref f_parts_at_)))
    (l_parts_at : K.lookup f_parts_at_ = some ⟨oc_parts_at, od_parts_at, .func (PySem.W.fnOf "parts_at" "parts_at" (defArgs s_parts_at) (defBody s_parts_at) (defScope s_parts_at) .none kV_parts_at dc_parts_at pm_parts_at an_parts_at cd_parts_at ct_parts_at), sl_parts_at⟩)
    (c_parts_at : PySem.W.codeIn K cd_parts_at "parts_at" = true)
    (k_parts_at : PySem.W.keepIn K (.ref f_parts_at_) = true)
    (a_has_parts : PySem.W.nsIn K mainGlobals "has_parts" = some (some (.ref f_has_parts_)))
    (l_has_parts : K.lookup f_has_parts_ = some ⟨oc_has_parts, od_has_parts, .func (PySem.W.fnOf "has_parts" "has_parts" (defArgs s_has_parts) (defBody s_has_parts) (defScope s_has_parts) .none kV_has_parts dc_has_parts pm_has_parts an_has_parts cd_has_parts ct_has_parts), sl_has_parts⟩)
    (c_has_parts : PySem.W.codeIn K cd_has_parts "has_parts" = true)
    (k_has_parts : PySem.W.keepIn K (.ref f_has_parts_) = true)
    (a_one_sign : PySem.W.nsIn K mainGlobals "one_sign" = some (some (.ref f_one_sign_)))
    (l_one_sign : K.lookup f_one_sign_ = some ⟨oc_one_sign, od_one_sign, .func (PySem.W.fnOf "one_sign" "one_sign" (defArgs s_one_sign) (defBody s_one_sign) (defScope s_one_sign) .none kV_one_sign dc_one_sign pm_one_sign an_one_sign cd_one_sign ct_one_sign), sl_one_sign⟩)
    (c_one_sign : PySem.W.codeIn K cd_one_sign "one_sign" = true)
    (k_one_sign : PySem.W.keepIn K (.ref f_one_sign_) = true)
    (a_parted : PySem.W.nsIn K mainGlobals "parted" = some (some (.ref f_parted_)))
    (l_parted : K.lookup f_parted_ = some ⟨oc_parted, od_parted, .func (PySem.W.fnOf "parted" "parted" (defArgs s_parted) (defBody s_parted) (defScope s_parted) .none kV_parted dc_parted pm_parted an_parted cd_parted ct_parted), sl_parted⟩)
    (c_parted : PySem.W.codeIn K cd_parted "parted" = true)
    (k_parted : PySem.W.keepIn K (.ref f_parted_) = true)
    (a_law_pool : PySem.W.nsIn K mainGlobals "_law_pool" = some (some (.ref f_law_pool_)))
    (l_law_pool : K.lookup f_law_pool_ = some ⟨oc_law_pool, od_law_pool, .func (PySem.W.fnOf "_law_pool" "_law_pool" (defArgs s_law_pool) (defBody s_law_pool) (defScope s_law_pool) .none kV_law_pool dc_law_pool pm_law_pool an_law_pool cd_law_pool ct_law_pool), sl_law_pool⟩)
    (c_law_pool : PySem.W.codeIn K cd_law_pool "_law_pool" = true)
    (k_law_pool : PySem.W.keepIn K (.ref f_law_pool_) = true)
    (a_law_take : PySem.W.nsIn K mainGlobals "_law_take" = some (some (.ref f_law_take_)))
    (l_law_take : K.lookup f_law_take_ = some ⟨oc_law_take, od_law_take, .func (PySem.W.fnOf "_law_take" "_law_take" (defArgs s_law_take) (defBody s_law_take) (defScope s_law_take) .none kV_law_take dc_law_take pm_law_take an_law_take cd_law_take ct_law_take), sl_law_take⟩)
    (c_law_take : PySem.W.codeIn K cd_law_take "_law_take" = true)
    (k_law_take : PySem.W.keepIn K (.ref f_law_take_) = true)
    (a_law_one : PySem.W.nsIn K mainGlobals "_law_one" = some (some (.ref f_law_one_)))
    (l_law_one : K.lookup f_law_one_ = some ⟨oc_law_one, od_law_one, .func (PySem.W.fnOf "_law_one" "_law_one" (defArgs s_law_one) (defBody s_law_one) (defScope s_law_one) .none kV_law_one dc_law_one pm_law_one an_law_one cd_law_one ct_law_one), sl_law_one⟩)
    (c_law_one : PySem.W.codeIn K cd_law_one "_law_one" = true)
    (k_law_one : PySem.W.keepIn K (.ref f_law_one_) = true)
    (a_law_some : PySem.W.nsIn K mainGlobals "_law_some" = some (some (.ref f_law_some_)))
    (l_law_some : K.lookup f_law_some_ = some ⟨oc_law_some, od_law_some, .func (PySem.W.fnOf "_law_some" "_law_some" (defArgs s_law_some) (defBody s_law_some) (defScope s_law_some) .none kV_law_some dc_law_some pm_law_some an_law_some cd_law_some ct_law_some), sl_law_some⟩)
    (c_law_some : PySem.W.codeIn K cd_law_some "_law_some" = true)
    (k_law_some : PySem.W.keepIn K (.ref f_law_some_) = true)
    (a_law_joined_moves : PySem.W.nsIn K mainGlobals "_law_joined_moves" = some (some (.ref f_law_joined_moves_)))
    (l_law_joined_moves : K.lookup f_law_joined_moves_ = some ⟨oc_law_joined_moves, od_law_joined_moves, .func (PySem.W.fnOf "_law_joined_moves" "_law_joined_moves" (defArgs s_law_joined_moves) (defBody s_law_joined_moves) (defScope s_law_joined_moves) .none kV_law_joined_moves dc_law_joined_moves pm_law_joined_moves an_law_joined_moves cd_law_joined_moves ct_law_joined_moves), sl_law_joined_moves⟩)
    (c_law_joined_moves : PySem.W.codeIn K cd_law_joined_moves "_law_joined_moves" = true)
    (k_law_joined_moves : PySem.W.keepIn K (.ref f_law_joined_moves_) = true)
    (a_law_signs : PySem.W.nsIn K mainGlobals "_law_signs" = some (some (.ref f_law_signs_)))
    (l_law_signs : K.lookup f_law_signs_ = some ⟨oc_law_signs, od_law_signs, .func (PySem.W.fnOf "_law_signs" "_law_signs" (defArgs s_law_signs) (defBody s_law_signs) (defScope s_law_signs) .none kV_law_signs dc_law_signs pm_law_signs an_law_signs cd_law_signs ct_law_signs), sl_law_signs⟩)
    (c_law_signs : PySem.W.codeIn K cd_law_signs "_law_signs" = true)
    (k_law_signs : PySem.W.keepIn K (.ref f_law_signs_) = true)
    (a_law_cures : PySem.W.nsIn K mainGlobals "_law_cures" = some (some (.ref f_law_cures_)))
    (l_law_cures : K.lookup f_law_cures_ = some ⟨oc_law_cures, od_law_cures, .func (PySem.W.fnOf "_law_cures" "_law_cures" (defArgs s_law_cures) (defBody s_law_cures) (defScope s_law_cures) .none kV_law_cures dc_law_cures pm_law_cures an_law_cures cd_law_cures ct_law_cures), sl_law_cures⟩)
    (c_law_cures : PySem.W.codeIn K cd_law_cures "_law_cures" = true)
    (k_law_cures : PySem.W.keepIn K (.ref f_law_cures_) = true)
    (a_law_rig : PySem.W.nsIn K mainGlobals "_law_rig" = some (some (.ref f_law_rig_)))
    (l_law_rig : K.lookup f_law_rig_ = some ⟨oc_law_rig, od_law_rig, .func (PySem.W.fnOf "_law_rig" "_law_rig" (defArgs s_law_rig) (defBody s_law_rig) (defScope s_law_rig) .none kV_law_rig dc_law_rig pm_law_rig an_law_rig cd_law_rig ct_law_rig), sl_law_rig⟩)
    (c_law_rig : PySem.W.codeIn K cd_law_rig "_law_rig" = true)
    (k_law_rig : PySem.W.keepIn K (.ref f_law_rig_) = true)
    (a_law_rig_of_all_sizes : PySem.W.nsIn K mainGlobals "_law_rig_of_all_sizes" = some (some (.ref f_law_rig_of_all_sizes_)))
    (l_law_rig_of_all_sizes : K.lookup f_law_rig_of_all_sizes_ = some ⟨oc_law_rig_of_all_sizes, od_law_rig_of_all_sizes, .func (PySem.W.fnOf "_law_rig_of_all_sizes" "_law_rig_of_all_sizes" (defArgs s_law_rig_of_all_sizes) (defBody s_law_rig_of_all_sizes) (defScope s_law_rig_of_all_sizes) .none kV_law_rig_of_all_sizes dc_law_rig_of_all_sizes pm_law_rig_of_all_sizes an_law_rig_of_all_sizes cd_law_rig_of_all_sizes ct_law_rig_of_all_sizes), sl_law_rig_of_all_sizes⟩)
    (c_law_rig_of_all_sizes : PySem.W.codeIn K cd_law_rig_of_all_sizes "_law_rig_of_all_sizes" = true)
    (k_law_rig_of_all_sizes : PySem.W.keepIn K (.ref f_law_rig_of_all_sizes_) = true)
    (a_law_lots_asked : PySem.W.nsIn K mainGlobals "_law_lots_asked" = some (some (.ref f_law_lots_asked_)))
    (l_law_lots_asked : K.lookup f_law_lots_asked_ = some ⟨oc_law_lots_asked, od_law_lots_asked, .func (PySem.W.fnOf "_law_lots_asked" "_law_lots_asked" (defArgs s_law_lots_asked) (defBody s_law_lots_asked) (defScope s_law_lots_asked) .none kV_law_lots_asked dc_law_lots_asked pm_law_lots_asked an_law_lots_asked cd_law_lots_asked ct_law_lots_asked), sl_law_lots_asked⟩)
    (c_law_lots_asked : PySem.W.codeIn K cd_law_lots_asked "_law_lots_asked" = true)
    (k_law_lots_asked : PySem.W.keepIn K (.ref f_law_lots_asked_) = true)
    (a_law_shown_pairs : PySem.W.nsIn K mainGlobals "_law_shown_pairs" = some (some (.ref f_law_shown_pairs_)))
    (l_law_shown_pairs : K.lookup f_law_shown_pairs_ = some ⟨oc_law_shown_pairs, od_law_shown_pairs, .func (PySem.W.fnOf "_law_shown_pairs" "_law_shown_pairs" (defArgs s_law_shown_pairs) (defBody s_law_shown_pairs) (defScope s_law_shown_pairs) .none kV_law_shown_pairs dc_law_shown_pairs pm_law_shown_pairs an_law_shown_pairs cd_law_shown_pairs ct_law_shown_pairs), sl_law_shown_pairs⟩)
    (c_law_shown_pairs : PySem.W.codeIn K cd_law_shown_pairs "_law_shown_pairs" = true)
    (k_law_shown_pairs : PySem.W.keepIn K (.ref f_law_shown_pairs_) = true)
    (a_law_lot_refused : PySem.W.nsIn K mainGlobals "_law_lot_refused" = some (some (.ref f_law_lot_refused_)))
    (l_law_lot_refused : K.lookup f_law_lot_refused_ = some ⟨oc_law_lot_refused, od_law_lot_refused, .func (PySem.W.fnOf "_law_lot_refused" "_law_lot_refused" (defArgs s_law_lot_refused) (defBody s_law_lot_refused) (defScope s_law_lot_refused) .none kV_law_lot_refused dc_law_lot_refused pm_law_lot_refused an_law_lot_refused cd_law_lot_refused ct_law_lot_refused), sl_law_lot_refused⟩)
    (c_law_lot_refused : PySem.W.codeIn K cd_law_lot_refused "_law_lot_refused" = true)
    (k_law_lot_refused : PySem.W.keepIn K (.ref f_law_lot_refused_) = true)
    (a_law_wrong_right : PySem.W.nsIn K mainGlobals "_law_wrong_right" = some (some (.ref f_law_wrong_right_)))
    (l_law_wrong_right : K.lookup f_law_wrong_right_ = some ⟨oc_law_wrong_right, od_law_wrong_right, .func (PySem.W.fnOf "_law_wrong_right" "_law_wrong_right" (defArgs s_law_wrong_right) (defBody s_law_wrong_right) (defScope s_law_wrong_right) .none kV_law_wrong_right dc_law_wrong_right pm_law_wrong_right an_law_wrong_right (.ref c0_law_wrong_right) ct_law_wrong_right), sl_law_wrong_right⟩)
    (c_law_wrong_right : PySem.W.codeIn K (.ref c0_law_wrong_right) "_law_wrong_right" = true)
    (k_law_wrong_right : PySem.W.keepIn K (.ref f_law_wrong_right_) = true)
    (lc_law_wrong_right : K.lookup c0_law_wrong_right = some ⟨ec_law_wrong_right, edd_law_wrong_right, .fields evs_law_wrong_right, esl_law_wrong_right⟩)
    (v_law_wrong_right : evs_law_wrong_right[11]? = some (.ref P_law_wrong_right))
    (n_law_wrong_right : K.lookup P_law_wrong_right = none)
    (a_law : PySem.W.nsIn K mainGlobals "law" = some (some (.ref f_law_)))
    (l_law : K.lookup f_law_ = some ⟨oc_law, od_law, .func (PySem.W.fnOf "law" "law" (defArgs s_law) (defBody s_law) (defScope s_law) .none kV_law dc_law pm_law an_law cd_law ct_law), sl_law⟩)
    (c_law : PySem.W.codeIn K cd_law "law" = true)
    (k_law : PySem.W.keepIn K (.ref f_law_) = true)
    (z_CURES : PySem.W.nsIn K mainGlobals "CURES" = some (some (.int 2 t_CURES)))
    (z_FAULTS : PySem.W.nsIn K mainGlobals "FAULTS" = some (some (.int 0 t_FAULTS)))
    (z_GREATEST_SIGN : PySem.W.nsIn K mainGlobals "GREATEST_SIGN" = some (some (.int 9 t_GREATEST_SIGN)))
    (z_MOST_FAULTS : PySem.W.nsIn K mainGlobals "MOST_FAULTS" = some (some (.int 24 t_MOST_FAULTS)))
    (z_MOST_MOVES : PySem.W.nsIn K mainGlobals "MOST_MOVES" = some (some (.int 200 t_MOST_MOVES)))
    (z_MOST_REMEDIES : PySem.W.nsIn K mainGlobals "MOST_REMEDIES" = some (some (.int 16 t_MOST_REMEDIES)))
    (z_MOST_SETTINGS : PySem.W.nsIn K mainGlobals "MOST_SETTINGS" = some (some (.int 40 t_MOST_SETTINGS)))
    (z_MOVES : PySem.W.nsIn K mainGlobals "MOVES" = some (some (.int 4 t_MOVES)))
    (z_REMEDIES : PySem.W.nsIn K mainGlobals "REMEDIES" = some (some (.int 1 t_REMEDIES)))
    (z_SIGNS : PySem.W.nsIn K mainGlobals "SIGNS" = some (some (.int 3 t_SIGNS)))
    (b_all_ : PySem.W.nsIn K mainGlobals "all" = some none)
    (b_bool_ : PySem.W.nsIn K mainGlobals "bool" = some none)
    (b_enumerate_ : PySem.W.nsIn K mainGlobals "enumerate" = some none)
    (b_int_ : PySem.W.nsIn K mainGlobals "int" = some none)
    (b_isinstance_ : PySem.W.nsIn K mainGlobals "isinstance" = some none)
    (b_len_ : PySem.W.nsIn K mainGlobals "len" = some none)
    (b_list_ : PySem.W.nsIn K mainGlobals "list" = some none)
    (b_max_ : PySem.W.nsIn K mainGlobals "max" = some none)
    (b_min_ : PySem.W.nsIn K mainGlobals "min" = some none)
    (b_range_ : PySem.W.nsIn K mainGlobals "range" = some none)
    (b_repr_ : PySem.W.nsIn K mainGlobals "repr" = some none)
    (b_sorted_ : PySem.W.nsIn K mainGlobals "sorted" = some none)
    (b_sum_ : PySem.W.nsIn K mainGlobals "sum" = some none)
    (b_tuple_ : PySem.W.nsIn K mainGlobals "tuple" = some none)
    (nL : noLst K = true)
    : LawG l w K 12 63 "_law_script" mg fa h := by
  have e := hfa.symm.trans (PySem.W.mg_of X G a_law)
  cases e
  have spT := sp1
  have T_Refused : ∃ fI, PySem.WhX.WhTxt K mg "Refused" C_Refused fI := ⟨fI, { gC := PySem.W.mg_of X G aC_Refused, cls := ⟨nm_Refused, q_Refused, N_Refused, bs_Refused, _, sn_Refused, sub_Refused, ab_Refused, col_Refused, dd_Refused, m0_Refused, m1_Refused, kn_Refused, kt_Refused, m3_Refused, m5_Refused, xL_Refused, rfl⟩, sa := sa_Refused, ga := ga_Refused, gg := gg_Refused, noN := nb_Refused, noK := nk_Refused, clA := cl_Refused, clG := sp1, clT := sp2, clO := mo_Refused, naR := rk_Refused, naF := fk_Refused, iC := iI_Refused, tC := tI, kC := kC_Refused, exC := eC_Refused, tyC := tC_Refused, hdC := hC_Refused, te := exmSelf eC_Refused hC_Refused tC_Refused sC_Refused, fn := ⟨_, _, _, _, _, _, _, _, _, _, _, _, _, _, _, _, _, _, _, _, lI, cI⟩ }⟩
  have R_Refused : PySem.W.ErrC K C_Refused := ⟨ga_Refused, gg_Refused, eC_Refused, hC_Refused, cl_Refused, sp1, sp2, mo_Refused⟩
  have T_BadLot : ∃ fI, PySem.WhX.WhTxt K mg "BadLot" C_BadLot fI := ⟨fI, { gC := PySem.W.mg_of X G aC_BadLot, cls := ⟨nm_BadLot, q_BadLot, N_BadLot, bs_BadLot, _, sn_BadLot, sub_BadLot, ab_BadLot, col_BadLot, dd_BadLot, m0_BadLot, m1_BadLot, kn_BadLot, kt_BadLot, m3_BadLot, m5_BadLot, xL_BadLot, rfl⟩, sa := sa_BadLot, ga := ga_BadLot, gg := gg_BadLot, noN := nb_BadLot, noK := nk_BadLot, clA := cl_BadLot, clG := sp1, clT := sp2, clO := mo_BadLot, naR := rk_BadLot, naF := fk_BadLot, iC := iI_BadLot, tC := tI, kC := kC_BadLot, exC := eC_BadLot, tyC := tC_BadLot, hdC := hC_BadLot, te := exmSelf eC_BadLot hC_BadLot tC_BadLot sC_BadLot, fn := ⟨_, _, _, _, _, _, _, _, _, _, _, _, _, _, _, _, _, _, _, _, lI, cI⟩ }⟩
  have R_BadLot : PySem.W.ErrC K C_BadLot := ⟨ga_BadLot, gg_BadLot, eC_BadLot, hC_BadLot, cl_BadLot, sp1, sp2, mo_BadLot⟩
  have T_BadRig : ∃ fI, PySem.WhX.WhTxt K mg "BadRig" C_BadRig fI := ⟨fI, { gC := PySem.W.mg_of X G aC_BadRig, cls := ⟨nm_BadRig, q_BadRig, N_BadRig, bs_BadRig, _, sn_BadRig, sub_BadRig, ab_BadRig, col_BadRig, dd_BadRig, m0_BadRig, m1_BadRig, kn_BadRig, kt_BadRig, m3_BadRig, m5_BadRig, xL_BadRig, rfl⟩, sa := sa_BadRig, ga := ga_BadRig, gg := gg_BadRig, noN := nb_BadRig, noK := nk_BadRig, clA := cl_BadRig, clG := sp1, clT := sp2, clO := mo_BadRig, naR := rk_BadRig, naF := fk_BadRig, iC := iI_BadRig, tC := tI, kC := kC_BadRig, exC := eC_BadRig, tyC := tC_BadRig, hdC := hC_BadRig, te := exmSelf eC_BadRig hC_BadRig tC_BadRig sC_BadRig, fn := ⟨_, _, _, _, _, _, _, _, _, _, _, _, _, _, _, _, _, _, _, _, lI, cI⟩ }⟩
  have R_BadRig : PySem.W.ErrC K C_BadRig := ⟨ga_BadRig, gg_BadRig, eC_BadRig, hC_BadRig, cl_BadRig, sp1, sp2, mo_BadRig⟩
  have T_BadSetting : ∃ fI, PySem.WhX.WhTxt K mg "BadSetting" C_BadSetting fI := ⟨fI, { gC := PySem.W.mg_of X G aC_BadSetting, cls := ⟨nm_BadSetting, q_BadSetting, N_BadSetting, bs_BadSetting, _, sn_BadSetting, sub_BadSetting, ab_BadSetting, col_BadSetting, dd_BadSetting, m0_BadSetting, m1_BadSetting, kn_BadSetting, kt_BadSetting, m3_BadSetting, m5_BadSetting, xL_BadSetting, rfl⟩, sa := sa_BadSetting, ga := ga_BadSetting, gg := gg_BadSetting, noN := nb_BadSetting, noK := nk_BadSetting, clA := cl_BadSetting, clG := sp1, clT := sp2, clO := mo_BadSetting, naR := rk_BadSetting, naF := fk_BadSetting, iC := iI_BadSetting, tC := tI, kC := kC_BadSetting, exC := eC_BadSetting, tyC := tC_BadSetting, hdC := hC_BadSetting, te := exmSelf eC_BadSetting hC_BadSetting tC_BadSetting sC_BadSetting, fn := ⟨_, _, _, _, _, _, _, _, _, _, _, _, _, _, _, _, _, _, _, _, lI, cI⟩ }⟩
  have R_BadSetting : PySem.W.ErrC K C_BadSetting := ⟨ga_BadSetting, gg_BadSetting, eC_BadSetting, hC_BadSetting, cl_BadSetting, sp1, sp2, mo_BadSetting⟩
  have who : ∀ c A, (is_BadLot c).isSome = true → mg c = some (.ref A) → (c = "BadLot" ∧ A = C_BadLot) ∨ (c = "BadRig" ∧ A = C_BadRig) ∨ (c = "BadSetting" ∧ A = C_BadSetting) := by
    intro c A h1 h2
    unfold is_BadLot at h1
    by_cases e0 : c = "BadLot"
    · rw [e0, T_BadLot.choose_spec.gC] at h2
      have z : A = C_BadLot := by cases h2; rfl
      exact Or.inl ⟨e0, z⟩
    rw [if_neg e0] at h1
    by_cases e1 : c = "BadRig"
    · rw [e1, T_BadRig.choose_spec.gC] at h2
      have z : A = C_BadRig := by cases h2; rfl
      exact Or.inr (Or.inl ⟨e1, z⟩)
    rw [if_neg e1] at h1
    by_cases e2 : c = "BadSetting"
    · rw [e2, T_BadSetting.choose_spec.gC] at h2
      have z : A = C_BadSetting := by cases h2; rfl
      exact Or.inr (Or.inr (⟨e2, z⟩))
    rw [if_neg e2] at h1
    cases h1
  have GG : Gs K mg C_BadLot C_BadRig C_BadSetting C_Refused := by
    refine ⟨PySem.W.mg_none_of X G b_all_, PySem.W.mg_none_of X G b_bool_, PySem.W.mg_none_of X G b_enumerate_, PySem.W.mg_none_of X G b_int_, PySem.W.mg_none_of X G b_isinstance_, PySem.W.mg_none_of X G b_len_, PySem.W.mg_none_of X G b_list_, PySem.W.mg_none_of X G b_max_, PySem.W.mg_none_of X G b_min_, PySem.W.mg_none_of X G b_range_, PySem.W.mg_none_of X G b_repr_, PySem.W.mg_none_of X G b_sorted_, PySem.W.mg_none_of X G b_sum_, PySem.W.mg_none_of X G b_tuple_, ⟨_, PySem.W.mg_of X G z_CURES⟩, ⟨_, PySem.W.mg_of X G z_FAULTS⟩, ⟨_, PySem.W.mg_of X G z_GREATEST_SIGN⟩, ⟨_, PySem.W.mg_of X G z_MOST_FAULTS⟩, ⟨_, PySem.W.mg_of X G z_MOST_MOVES⟩, ⟨_, PySem.W.mg_of X G z_MOST_REMEDIES⟩, ⟨_, PySem.W.mg_of X G z_MOST_SETTINGS⟩, ⟨_, PySem.W.mg_of X G z_MOVES⟩, ⟨_, PySem.W.mg_of X G z_REMEDIES⟩, ⟨_, PySem.W.mg_of X G z_SIGNS⟩, T_BadLot, T_BadRig, T_BadSetting, T_Refused, ?_, ?_, ?_, ?_, ?_, ?_, ?_⟩
    · intro c A h1 h2
      rcases who c A h1 h2 with ⟨rfl, rfl⟩ | ⟨rfl, rfl⟩ | ⟨rfl, rfl⟩
      · exact ⟨T_BadLot, R_BadLot⟩
      · exact ⟨T_BadRig, R_BadRig⟩
      · exact ⟨T_BadSetting, R_BadSetting⟩
    · intro c A h2 b h1
      have h0 : (is_BadLot c).isSome = true := isD_BadLot h1
      rcases who c A h0 h2 with ⟨rfl, rfl⟩ | ⟨rfl, rfl⟩ | ⟨rfl, rfl⟩
      · have z : is_BadLot "BadLot" = some true := by decide
        rw [z] at h1
        cases h1
        exact ki_BadLot_BadLot
      · have z : is_BadLot "BadRig" = some false := by decide
        rw [z] at h1
        cases h1
        exact ki_BadRig_BadLot
      · have z : is_BadLot "BadSetting" = some false := by decide
        rw [z] at h1
        cases h1
        exact ki_BadSetting_BadLot
    · intro c A b h1 h2
      have h0 : (is_BadLot c).isSome = true := isD_BadLot h1
      rcases who c A h0 h2 with ⟨rfl, rfl⟩ | ⟨rfl, rfl⟩ | ⟨rfl, rfl⟩
      · have z : is_BadLot "BadLot" = some true := by decide
        rw [z] at h1
        cases h1
        exact exmSelf eC_BadLot hC_BadLot tC_BadLot su_BadLot_BadLot
      · have z : is_BadLot "BadRig" = some false := by decide
        rw [z] at h1
        cases h1
        exact exmSelf eC_BadLot hC_BadLot tC_BadLot su_BadRig_BadLot
      · have z : is_BadLot "BadSetting" = some false := by decide
        rw [z] at h1
        cases h1
        exact exmSelf eC_BadLot hC_BadLot tC_BadLot su_BadSetting_BadLot
    · intro c A h2 b h1
      have h0 : (is_BadLot c).isSome = true := isD_BadSetting h1
      rcases who c A h0 h2 with ⟨rfl, rfl⟩ | ⟨rfl, rfl⟩ | ⟨rfl, rfl⟩
      · have z : is_BadSetting "BadLot" = some false := by decide
        rw [z] at h1
        cases h1
        exact ki_BadLot_BadSetting
      · have z : is_BadSetting "BadRig" = some false := by decide
        rw [z] at h1
        cases h1
        exact ki_BadRig_BadSetting
      · have z : is_BadSetting "BadSetting" = some true := by decide
        rw [z] at h1
        cases h1
        exact ki_BadSetting_BadSetting
    · intro c A b h1 h2
      have h0 : (is_BadLot c).isSome = true := isD_BadSetting h1
      rcases who c A h0 h2 with ⟨rfl, rfl⟩ | ⟨rfl, rfl⟩ | ⟨rfl, rfl⟩
      · have z : is_BadSetting "BadLot" = some false := by decide
        rw [z] at h1
        cases h1
        exact exmSelf eC_BadSetting hC_BadSetting tC_BadSetting su_BadLot_BadSetting
      · have z : is_BadSetting "BadRig" = some false := by decide
        rw [z] at h1
        cases h1
        exact exmSelf eC_BadSetting hC_BadSetting tC_BadSetting su_BadRig_BadSetting
      · have z : is_BadSetting "BadSetting" = some true := by decide
        rw [z] at h1
        cases h1
        exact exmSelf eC_BadSetting hC_BadSetting tC_BadSetting su_BadSetting_BadSetting
    · intro c A h2 b h1
      have h0 : (is_BadLot c).isSome = true := isD_Refused h1
      rcases who c A h0 h2 with ⟨rfl, rfl⟩ | ⟨rfl, rfl⟩ | ⟨rfl, rfl⟩
      · have z : is_Refused "BadLot" = some true := by decide
        rw [z] at h1
        cases h1
        exact ki_BadLot_Refused
      · have z : is_Refused "BadRig" = some true := by decide
        rw [z] at h1
        cases h1
        exact ki_BadRig_Refused
      · have z : is_Refused "BadSetting" = some true := by decide
        rw [z] at h1
        cases h1
        exact ki_BadSetting_Refused
    · intro c A b h1 h2
      have h0 : (is_BadLot c).isSome = true := isD_Refused h1
      rcases who c A h0 h2 with ⟨rfl, rfl⟩ | ⟨rfl, rfl⟩ | ⟨rfl, rfl⟩
      · have z : is_Refused "BadLot" = some true := by decide
        rw [z] at h1
        cases h1
        exact exmSelf eC_Refused hC_Refused tC_Refused su_BadLot_Refused
      · have z : is_Refused "BadRig" = some true := by decide
        rw [z] at h1
        cases h1
        exact exmSelf eC_Refused hC_Refused tC_Refused su_BadRig_Refused
      · have z : is_Refused "BadSetting" = some true := by decide
        rw [z] at h1
        cases h1
        exact exmSelf eC_Refused hC_Refused tC_Refused su_BadSetting_Refused
  have t_law_wrong_right : PySem.W.tabIn K "_law_wrong_right" = some (c0_law_wrong_right, P_law_wrong_right) := by
    unfold PySem.W.tabIn
    rw [a_law_wrong_right]
    dsimp only
    rw [l_law_wrong_right]
    dsimp only [PySem.W.fnOf]
    rw [lc_law_wrong_right]
    dsimp only
    rw [v_law_wrong_right]
  obtain ⟨hd_law_wrong_right, em_law_wrong_right⟩ := TT "_law_wrong_right" (by simp) _ _ t_law_wrong_right
  have spl : ∀ (o : Obj) (a : Addr) (ns : List Int) (ts : List Addr), ns.length ≤ 63 → (∀ z ∈ ns, Builtin.Int.intBits z ≤ 1048576) → ts = ([(c0_law_wrong_right, P_law_wrong_right)] : List (Addr × Addr)).map (·.2) → a ∉ ts → spM ([(P_law_wrong_right, lamQ "_law_wrong_right")] : List (Addr × Str)) mg 1 f_law [.ref a] (lawHp a o (ns.map V.int) ts) (fun v _ => v = .bl true) (fun _ _ _ => False) := fun o a ns ts hl hb ht ha => spLawG (by rw [ht]; simp) ha (law_true ns hl hb)
  refine ⟨PySem.W.fnOf "law" "law" (defArgs s_law) (defBody s_law) (defScope s_law) .none kV_law dc_law pm_law an_law cd_law ct_law, [(c0_law_wrong_right, P_law_wrong_right)], spM [(P_law_wrong_right, lamQ "_law_wrong_right")] mg 1 f_law, by simpa using em_law_wrong_right, by simpa using n_law_wrong_right, by simpa using hd_law_wrong_right, nL, fun s u => .of_eq rfl, spl, ?_⟩
  intro base KB GB TBs
  have TB_law_wrong_right : LamX.TabB base mg c0_law_wrong_right P_law_wrong_right := TBs (c0_law_wrong_right, P_law_wrong_right) (List.mem_singleton.mpr rfl)
  have D_is_number : Good l.prog w K mg base [(P_law_wrong_right, lamQ "_law_wrong_right")] 1 "is_number" ["thing"] f_is_number := ok_is_number GG (at_is_number X G a_is_number l_is_number c_is_number k_is_number) 
  have D_is_from : Good l.prog w K mg base [(P_law_wrong_right, lamQ "_law_wrong_right")] 2 "is_from" ["thing", "least", "most"] f_is_from := ok_is_from GG (at_is_from X G a_is_from l_is_from c_is_from k_is_from) D_is_number
  have D_is_index : Good l.prog w K mg base [(P_law_wrong_right, lamQ "_law_wrong_right")] 3 "is_index" ["thing", "many"] f_is_index := ok_is_index GG (at_is_index X G a_is_index l_is_index c_is_index k_is_index) D_is_from
  have D_is_tuple_of : Good l.prog w K mg base [(P_law_wrong_right, lamQ "_law_wrong_right")] 1 "is_tuple_of" ["thing", "least", "most"] f_is_tuple_of := ok_is_tuple_of GG (at_is_tuple_of X G a_is_tuple_of l_is_tuple_of c_is_tuple_of k_is_tuple_of) 
  have D_is_ascending : Good l.prog w K mg base [(P_law_wrong_right, lamQ "_law_wrong_right")] 2 "is_ascending" ["thing", "many"] f_is_ascending := ok_is_ascending GG (at_is_ascending X G a_is_ascending l_is_ascending c_is_ascending k_is_ascending) D_is_number
  have D_wrong_cures : Good l.prog w K mg base [(P_law_wrong_right, lamQ "_law_wrong_right")] 3 "wrong_cures" ["cures", "n", "q"] f_wrong_cures := ok_wrong_cures GG (at_wrong_cures X G a_wrong_cures l_wrong_cures c_wrong_cures k_wrong_cures) D_is_tuple_of D_is_ascending
  have D_are_signs : Good l.prog w K mg base [(P_law_wrong_right, lamQ "_law_wrong_right")] 3 "are_signs" ["entry", "n"] f_are_signs := ok_are_signs GG (at_are_signs X G a_are_signs l_are_signs c_are_signs k_are_signs) D_is_tuple_of D_is_from
  have D_wrong_signs : Good l.prog w K mg base [(P_law_wrong_right, lamQ "_law_wrong_right")] 4 "wrong_signs" ["signs", "n"] f_wrong_signs := ok_wrong_signs GG (at_wrong_signs X G a_wrong_signs l_wrong_signs c_wrong_signs k_wrong_signs) D_is_tuple_of D_are_signs
  have D_wrong_moves : Good l.prog w K mg base [(P_law_wrong_right, lamQ "_law_wrong_right")] 3 "wrong_moves" ["moves", "settings"] f_wrong_moves := ok_wrong_moves GG (at_wrong_moves X G a_wrong_moves l_wrong_moves c_wrong_moves k_wrong_moves) D_is_tuple_of D_is_ascending
  have D_wrong_place : Good l.prog w K mg base [(P_law_wrong_right, lamQ "_law_wrong_right")] 5 "wrong_place" ["thing"] f_wrong_place := ok_wrong_place GG (at_wrong_place X G a_wrong_place l_wrong_place c_wrong_place k_wrong_place) D_is_tuple_of D_is_from D_wrong_cures D_wrong_signs D_wrong_moves
  have D_made_rig : Good l.prog w K mg base [(P_law_wrong_right, lamQ "_law_wrong_right")] 6 "made_rig" ["thing"] f_made_rig := ok_made_rig GG (at_made_rig X G a_made_rig l_made_rig c_made_rig k_made_rig) D_wrong_place
  have D_check_setting : Good l.prog w K mg base [(P_law_wrong_right, lamQ "_law_wrong_right")] 4 "check_setting" ["rig", "g"] f_check_setting := ok_check_setting GG (at_check_setting X G a_check_setting l_check_setting c_check_setting k_check_setting) D_is_index
  have D_check_lot : Good l.prog w K mg base [(P_law_wrong_right, lamQ "_law_wrong_right")] 3 "check_lot" ["rig", "lot"] f_check_lot := ok_check_lot GG (at_check_lot X G a_check_lot l_check_lot c_check_lot k_check_lot) D_is_ascending
  have D_check_rig_and_lot : Good l.prog w K mg base [(P_law_wrong_right, lamQ "_law_wrong_right")] 7 "check_rig_and_lot" ["rig", "lot"] f_check_rig_and_lot := ok_check_rig_and_lot GG (at_check_rig_and_lot X G a_check_rig_and_lot l_check_rig_and_lot c_check_rig_and_lot k_check_rig_and_lot) D_made_rig D_check_lot
  have D_parts_at : Good l.prog w K mg base [(P_law_wrong_right, lamQ "_law_wrong_right")] 1 "parts_at" ["rig", "lot", "g"] f_parts_at := ok_parts_at GG (at_parts_at X G a_parts_at l_parts_at c_parts_at k_parts_at) 
  have D_has_parts : Good l.prog w K mg base [(P_law_wrong_right, lamQ "_law_wrong_right")] 2 "has_parts" ["rig", "lot", "g"] f_has_parts := ok_has_parts GG (at_has_parts X G a_has_parts l_has_parts c_has_parts k_has_parts) D_parts_at
  have D_one_sign : Good l.prog w K mg base [(P_law_wrong_right, lamQ "_law_wrong_right")] 8 "one_sign" ["rig", "lot", "g"] f_one_sign := ok_one_sign GG (at_one_sign X G a_one_sign l_one_sign c_one_sign k_one_sign) D_check_rig_and_lot D_check_setting D_has_parts
  have D_parted : Good l.prog w K mg base [(P_law_wrong_right, lamQ "_law_wrong_right")] 8 "parted" ["rig", "lot", "g"] f_parted := ok_parted GG (at_parted X G a_parted l_parted c_parted k_parted) D_check_rig_and_lot D_check_setting D_parts_at
  have D_law_pool : Good l.prog w K mg base [(P_law_wrong_right, lamQ "_law_wrong_right")] 1 "_law_pool" ["_law_script", "_law_k"] f_law_pool := ok_law_pool GG (at_law_pool X G a_law_pool l_law_pool c_law_pool k_law_pool) 
  have D_law_take : Good l.prog w K mg base [(P_law_wrong_right, lamQ "_law_wrong_right")] 1 "_law_take" ["_law_source", "_law_top"] f_law_take := ok_law_take GG (at_law_take X G a_law_take l_law_take c_law_take k_law_take) 
  have D_law_one : Good l.prog w K mg base [(P_law_wrong_right, lamQ "_law_wrong_right")] 2 "_law_one" ["_law_source", "_law_things"] f_law_one := ok_law_one GG (at_law_one X G a_law_one l_law_one c_law_one k_law_one) D_law_take
  have D_law_some : Good l.prog w K mg base [(P_law_wrong_right, lamQ "_law_wrong_right")] 2 "_law_some" ["_law_source", "_law_things"] f_law_some := ok_law_some GG (at_law_some X G a_law_some l_law_some c_law_some k_law_some) D_law_take
  have D_law_joined_moves : Good l.prog w K mg base [(P_law_wrong_right, lamQ "_law_wrong_right")] 2 "_law_joined_moves" ["_law_source", "_law_m"] f_law_joined_moves := ok_law_joined_moves GG (at_law_joined_moves X G a_law_joined_moves l_law_joined_moves c_law_joined_moves k_law_joined_moves) D_law_take
  have D_law_signs : Good l.prog w K mg base [(P_law_wrong_right, lamQ "_law_wrong_right")] 2 "_law_signs" ["_law_source", "_law_n", "_law_m"] f_law_signs := ok_law_signs GG (at_law_signs X G a_law_signs l_law_signs c_law_signs k_law_signs) D_law_take
  have D_law_cures : Good l.prog w K mg base [(P_law_wrong_right, lamQ "_law_wrong_right")] 2 "_law_cures" ["_law_source", "_law_n", "_law_q"] f_law_cures := ok_law_cures GG (at_law_cures X G a_law_cures l_law_cures c_law_cures k_law_cures) D_law_take
  have D_law_rig : Good l.prog w K mg base [(P_law_wrong_right, lamQ "_law_wrong_right")] 3 "_law_rig" ["_law_source", "_law_faults", "_law_settings"] f_law_rig := ok_law_rig GG (at_law_rig X G a_law_rig l_law_rig c_law_rig k_law_rig) D_law_take D_law_joined_moves D_law_signs D_law_cures
  have D_law_rig_of_all_sizes : Good l.prog w K mg base [(P_law_wrong_right, lamQ "_law_wrong_right")] 4 "_law_rig_of_all_sizes" ["_law_source"] f_law_rig_of_all_sizes := ok_law_rig_of_all_sizes GG (at_law_rig_of_all_sizes X G a_law_rig_of_all_sizes l_law_rig_of_all_sizes c_law_rig_of_all_sizes k_law_rig_of_all_sizes) D_law_rig D_law_take D_law_one D_law_signs D_law_cures
  have D_law_lots_asked : Good l.prog w K mg base [(P_law_wrong_right, lamQ "_law_wrong_right")] 3 "_law_lots_asked" ["_law_source", "_law_rig_here"] f_law_lots_asked := ok_law_lots_asked GG (at_law_lots_asked X G a_law_lots_asked l_law_lots_asked c_law_lots_asked k_law_lots_asked) D_law_some
  have D_law_shown_pairs : Good l.prog w K mg base [(P_law_wrong_right, lamQ "_law_wrong_right")] 1 "_law_shown_pairs" ["_law_rig_here", "_law_lot", "_law_g"] f_law_shown_pairs := ok_law_shown_pairs GG (at_law_shown_pairs X G a_law_shown_pairs l_law_shown_pairs c_law_shown_pairs k_law_shown_pairs) 
  have D_law_lot_refused : DfnT l.prog w K mg base [(P_law_wrong_right, lamQ "_law_wrong_right")] 9 "_law_lot_refused" 0 K03.f_law_lot_refused := ok_law_lot_refused GG (at_law_lot_refused X G a_law_lot_refused l_law_lot_refused c_law_lot_refused k_law_lot_refused) 
  have D_law_wrong_right : Good l.prog w K mg base [(P_law_wrong_right, lamQ "_law_wrong_right")] 11 "_law_wrong_right" ["_law_source", "_law_rig_here"] K03.f_law_wrong_right := ok_law_wrong_right GG TB_law_wrong_right (by simp) (by simp) (at_law_wrong_right X G a_law_wrong_right l_law_wrong_right c_law_wrong_right k_law_wrong_right) D_law_take D_law_one D_law_lot_refused D_parted D_one_sign
  have D_law : Good l.prog w K mg base [(P_law_wrong_right, lamQ "_law_wrong_right")] 12 "law" ["_law_script"] K03.f_law := ok_law GG (at_law X G a_law l_law c_law k_law) D_law_pool D_law_rig_of_all_sizes D_law_lots_asked D_parted D_law_shown_pairs D_one_sign D_law_wrong_right
  exact D_law.2.2 _ (PySem.W.mg_of X G a_law) _ _ _ _ l_law
end K03
open PySem PySem.W PyProof.Rows
set_option maxHeartbeats 0 in
theorem PySem.Challenge.cw_waryrig_k03_signs_that_part_lots_holds : PySem.Challenge.rw_waryrig_k03_signs_that_part_lots.Holds := by
  w_on; o_law; k_head; (case hw => w_witness2)
  k_fill
  refine Dn.walkGT (l := PySem.Challenge.rw_waryrig_k03_signs_that_part_lots) (n := 63) (k := 12) (x := "_law_script") ["_law_wrong_right"] rfl (by decide) rfl ⟨rfl, by decide, by decide⟩ (fun w h Y => PySem.W.km_in_of Y) (by rfl) ?F
  case F =>
    intro w mg fa h KX G hmg TT
    refine' K03.all_mk KX G hmg TT ?aC_Refused ?xL_Refused ?sa_Refused ?ga_Refused ?gg_Refused ?nb_Refused ?nk_Refused ?rk_Refused ?fk_Refused ?iI_Refused ?kC_Refused ?eC_Refused ?tC_Refused ?hC_Refused ?sC_Refused ?cl_Refused ?mo_Refused ?tI ?lI ?cI ?aC_BadLot ?xL_BadLot ?sa_BadLot ?ga_BadLot ?gg_BadLot ?nb_BadLot ?nk_BadLot ?rk_BadLot ?fk_BadLot ?iI_BadLot ?kC_BadLot ?eC_BadLot ?tC_BadLot ?hC_BadLot ?sC_BadLot ?cl_BadLot ?mo_BadLot ?aC_BadRig ?xL_BadRig ?sa_BadRig ?ga_BadRig ?gg_BadRig ?nb_BadRig ?nk_BadRig ?rk_BadRig ?fk_BadRig ?iI_BadRig ?kC_BadRig ?eC_BadRig ?tC_BadRig ?hC_BadRig ?sC_BadRig ?cl_BadRig ?mo_BadRig ?aC_BadSetting ?xL_BadSetting ?sa_BadSetting ?ga_BadSetting ?gg_BadSetting ?nb_BadSetting ?nk_BadSetting ?rk_BadSetting ?fk_BadSetting ?iI_BadSetting ?kC_BadSetting ?eC_BadSetting ?tC_BadSetting ?hC_BadSetting ?sC_BadSetting ?cl_BadSetting ?mo_BadSetting ?sp1 ?sp2 ?su_BadLot_BadLot ?ki_BadLot_BadLot ?su_BadLot_BadSetting ?ki_BadLot_BadSetting ?su_BadLot_Refused ?ki_BadLot_Refused ?su_BadRig_BadLot ?ki_BadRig_BadLot ?su_BadRig_BadSetting ?ki_BadRig_BadSetting ?su_BadRig_Refused ?ki_BadRig_Refused ?su_BadSetting_BadLot ?ki_BadSetting_BadLot ?su_BadSetting_BadSetting ?ki_BadSetting_BadSetting ?su_BadSetting_Refused ?ki_BadSetting_Refused ?a_is_number ?l_is_number ?c_is_number ?k_is_number ?a_is_from ?l_is_from ?c_is_from ?k_is_from ?a_is_index ?l_is_index ?c_is_index ?k_is_index ?a_is_tuple_of ?l_is_tuple_of ?c_is_tuple_of ?k_is_tuple_of ?a_is_ascending ?l_is_ascending ?c_is_ascending ?k_is_ascending ?a_wrong_cures ?l_wrong_cures ?c_wrong_cures ?k_wrong_cures ?a_are_signs ?l_are_signs ?c_are_signs ?k_are_signs ?a_wrong_signs ?l_wrong_signs ?c_wrong_signs ?k_wrong_signs ?a_wrong_moves ?l_wrong_moves ?c_wrong_moves ?k_wrong_moves ?a_wrong_place ?l_wrong_place ?c_wrong_place ?k_wrong_place ?a_made_rig ?l_made_rig ?c_made_rig ?k_made_rig ?a_check_setting ?l_check_setting ?c_check_setting ?k_check_setting ?a_check_lot ?l_check_lot ?c_check_lot ?k_check_lot ?a_check_rig_and_lot ?l_check_rig_and_lot ?c_check_rig_and_lot ?k_check_rig_and_lot ?a_parts_at ?l_parts_at ?c_parts_at ?k_parts_at ?a_has_parts ?l_has_parts ?c_has_parts ?k_has_parts ?a_one_sign ?l_one_sign ?c_one_sign ?k_one_sign ?a_parted ?l_parted ?c_parted ?k_parted ?a_law_pool ?l_law_pool ?c_law_pool ?k_law_pool ?a_law_take ?l_law_take ?c_law_take ?k_law_take ?a_law_one ?l_law_one ?c_law_one ?k_law_one ?a_law_some ?l_law_some ?c_law_some ?k_law_some ?a_law_joined_moves ?l_law_joined_moves ?c_law_joined_moves ?k_law_joined_moves ?a_law_signs ?l_law_signs ?c_law_signs ?k_law_signs ?a_law_cures ?l_law_cures ?c_law_cures ?k_law_cures ?a_law_rig ?l_law_rig ?c_law_rig ?k_law_rig ?a_law_rig_of_all_sizes ?l_law_rig_of_all_sizes ?c_law_rig_of_all_sizes ?k_law_rig_of_all_sizes ?a_law_lots_asked ?l_law_lots_asked ?c_law_lots_asked ?k_law_lots_asked ?a_law_shown_pairs ?l_law_shown_pairs ?c_law_shown_pairs ?k_law_shown_pairs ?a_law_lot_refused ?l_law_lot_refused ?c_law_lot_refused ?k_law_lot_refused ?a_law_wrong_right ?l_law_wrong_right ?c_law_wrong_right ?k_law_wrong_right ?lc_law_wrong_right ?v_law_wrong_right ?n_law_wrong_right ?a_law ?l_law ?c_law ?k_law ?z_CURES ?z_FAULTS ?z_GREATEST_SIGN ?z_MOST_FAULTS ?z_MOST_MOVES ?z_MOST_REMEDIES ?z_MOST_SETTINGS ?z_MOVES ?z_REMEDIES ?z_SIGNS ?b_all_ ?b_bool_ ?b_enumerate_ ?b_int_ ?b_isinstance_ ?b_len_ ?b_list_ ?b_max_ ?b_min_ ?b_range_ ?b_repr_ ?b_sorted_ ?b_sum_ ?b_tuple_ ?nL
    (case aC_Refused => k_is); (case xL_Refused => k_is); (case sa_Refused => k_is); (case ga_Refused => k_is)
    (case gg_Refused => k_is); (case nb_Refused => k_is); (case nk_Refused => k_is); (case rk_Refused => first | k_is | rfl | decide +kernel); (case fk_Refused => k_is); (case iI_Refused => k_is); (case kC_Refused => k_is)
    (case eC_Refused => k_is); (case tC_Refused => k_is); (case hC_Refused => k_is); (case sC_Refused => k_is)
    (case cl_Refused => k_is); (case mo_Refused => k_is); (case tI => k_is); (case lI => k_is)
    (case cI => k_is); (case aC_BadLot => k_is); (case xL_BadLot => k_is); (case sa_BadLot => k_is)
    (case ga_BadLot => k_is); (case gg_BadLot => k_is); (case nb_BadLot => k_is); (case nk_BadLot => k_is); (case rk_BadLot => first | k_is | rfl | decide +kernel); (case fk_BadLot => k_is); (case iI_BadLot => k_is)
    (case kC_BadLot => k_is); (case eC_BadLot => k_is); (case tC_BadLot => k_is); (case hC_BadLot => k_is)
    (case sC_BadLot => k_is); (case cl_BadLot => k_is); (case mo_BadLot => k_is); (case aC_BadRig => k_is)
    (case xL_BadRig => k_is); (case sa_BadRig => k_is); (case ga_BadRig => k_is); (case gg_BadRig => k_is)
    (case nb_BadRig => k_is); (case nk_BadRig => k_is); (case rk_BadRig => first | k_is | rfl | decide +kernel); (case fk_BadRig => k_is); (case iI_BadRig => k_is); (case kC_BadRig => k_is); (case eC_BadRig => k_is)
    (case tC_BadRig => k_is); (case hC_BadRig => k_is); (case sC_BadRig => k_is); (case cl_BadRig => k_is)
    (case mo_BadRig => k_is); (case aC_BadSetting => k_is); (case xL_BadSetting => k_is); (case sa_BadSetting => k_is)
    (case ga_BadSetting => k_is); (case gg_BadSetting => k_is); (case nb_BadSetting => k_is); (case nk_BadSetting => k_is); (case rk_BadSetting => first | k_is | rfl | decide +kernel); (case fk_BadSetting => k_is); (case iI_BadSetting => k_is)
    (case kC_BadSetting => k_is); (case eC_BadSetting => k_is); (case tC_BadSetting => k_is); (case hC_BadSetting => k_is)
    (case sC_BadSetting => k_is); (case cl_BadSetting => k_is); (case mo_BadSetting => k_is); (case sp1 => k_is)
    (case sp2 => k_is); (case su_BadLot_BadLot => k_is); (case ki_BadLot_BadLot => first | rfl | k_is | decide +kernel); (case su_BadLot_BadSetting => k_is)
    (case ki_BadLot_BadSetting => first | rfl | k_is | decide +kernel); (case su_BadLot_Refused => k_is); (case ki_BadLot_Refused => first | rfl | k_is | decide +kernel); (case su_BadRig_BadLot => k_is)
    (case ki_BadRig_BadLot => first | rfl | k_is | decide +kernel); (case su_BadRig_BadSetting => k_is); (case ki_BadRig_BadSetting => first | rfl | k_is | decide +kernel); (case su_BadRig_Refused => k_is)
    (case ki_BadRig_Refused => first | rfl | k_is | decide +kernel); (case su_BadSetting_BadLot => k_is); (case ki_BadSetting_BadLot => first | rfl | k_is | decide +kernel); (case su_BadSetting_BadSetting => k_is)
    (case ki_BadSetting_BadSetting => first | rfl | k_is | decide +kernel); (case su_BadSetting_Refused => k_is); (case ki_BadSetting_Refused => first | rfl | k_is | decide +kernel); (case a_is_number => k_is)
    (case l_is_number => k_is); (case c_is_number => k_is); (case k_is_number => k_is); (case a_is_from => k_is)
    (case l_is_from => k_is); (case c_is_from => k_is); (case k_is_from => k_is); (case a_is_index => k_is)
    (case l_is_index => k_is); (case c_is_index => k_is); (case k_is_index => k_is); (case a_is_tuple_of => k_is)
    (case l_is_tuple_of => k_is); (case c_is_tuple_of => k_is); (case k_is_tuple_of => k_is); (case a_is_ascending => k_is)
    (case l_is_ascending => k_is); (case c_is_ascending => k_is); (case k_is_ascending => k_is); (case a_wrong_cures => k_is)
    (case l_wrong_cures => k_is); (case c_wrong_cures => k_is); (case k_wrong_cures => k_is); (case a_are_signs => k_is)
    (case l_are_signs => k_is); (case c_are_signs => k_is); (case k_are_signs => k_is); (case a_wrong_signs => k_is)
    (case l_wrong_signs => k_is); (case c_wrong_signs => k_is); (case k_wrong_signs => k_is); (case a_wrong_moves => k_is)
    (case l_wrong_moves => k_is); (case c_wrong_moves => k_is); (case k_wrong_moves => k_is); (case a_wrong_place => k_is)
    (case l_wrong_place => k_is); (case c_wrong_place => k_is); (case k_wrong_place => k_is); (case a_made_rig => k_is)
    (case l_made_rig => k_is); (case c_made_rig => k_is); (case k_made_rig => k_is); (case a_check_setting => k_is)
    (case l_check_setting => k_is); (case c_check_setting => k_is); (case k_check_setting => k_is); (case a_check_lot => k_is)
    (case l_check_lot => k_is); (case c_check_lot => k_is); (case k_check_lot => k_is); (case a_check_rig_and_lot => k_is)
    (case l_check_rig_and_lot => k_is); (case c_check_rig_and_lot => k_is); (case k_check_rig_and_lot => k_is); (case a_parts_at => k_is)
    (case l_parts_at => k_is); (case c_parts_at => k_is); (case k_parts_at => k_is); (case a_has_parts => k_is)
    (case l_has_parts => k_is); (case c_has_parts => k_is); (case k_has_parts => k_is); (case a_one_sign => k_is)
    (case l_one_sign => k_is); (case c_one_sign => k_is); (case k_one_sign => k_is); (case a_parted => k_is)
    (case l_parted => k_is); (case c_parted => k_is); (case k_parted => k_is); (case a_law_pool => k_is)
    (case l_law_pool => k_is); (case c_law_pool => k_is); (case k_law_pool => k_is); (case a_law_take => k_is)
    (case l_law_take => k_is); (case c_law_take => k_is); (case k_law_take => k_is); (case a_law_one => k_is)
    (case l_law_one => k_is); (case c_law_one => k_is); (case k_law_one => k_is); (case a_law_some => k_is)
    (case l_law_some => k_is); (case c_law_some => k_is); (case k_law_some => k_is); (case a_law_joined_moves => k_is)
    (case l_law_joined_moves => k_is); (case c_law_joined_moves => k_is); (case k_law_joined_moves => k_is); (case a_law_signs => k_is)
    (case l_law_signs => k_is); (case c_law_signs => k_is); (case k_law_signs => k_is); (case a_law_cures => k_is)
    (case l_law_cures => k_is); (case c_law_cures => k_is); (case k_law_cures => k_is); (case a_law_rig => k_is)
    (case l_law_rig => k_is); (case c_law_rig => k_is); (case k_law_rig => k_is); (case a_law_rig_of_all_sizes => k_is)
    (case l_law_rig_of_all_sizes => k_is); (case c_law_rig_of_all_sizes => k_is); (case k_law_rig_of_all_sizes => k_is); (case a_law_lots_asked => k_is)
    (case l_law_lots_asked => k_is); (case c_law_lots_asked => k_is); (case k_law_lots_asked => k_is); (case a_law_shown_pairs => k_is)
    (case l_law_shown_pairs => k_is); (case c_law_shown_pairs => k_is); (case k_law_shown_pairs => k_is); (case a_law_lot_refused => k_is)
    (case l_law_lot_refused => k_is); (case c_law_lot_refused => k_is); (case k_law_lot_refused => k_is); (case a_law_wrong_right => k_is)
    (case l_law_wrong_right => k_is); (case c_law_wrong_right => k_is); (case k_law_wrong_right => k_is); (case lc_law_wrong_right => k_is)
    (case v_law_wrong_right => first | rfl | k_is | decide +kernel); (case n_law_wrong_right => first | rfl | k_is | decide +kernel); (case a_law => k_is); (case l_law => k_is)
    (case c_law => k_is); (case k_law => k_is); (case z_CURES => k_is); (case z_FAULTS => k_is)
    (case z_GREATEST_SIGN => k_is); (case z_MOST_FAULTS => k_is); (case z_MOST_MOVES => k_is); (case z_MOST_REMEDIES => k_is)
    (case z_MOST_SETTINGS => k_is); (case z_MOVES => k_is); (case z_REMEDIES => k_is); (case z_SIGNS => k_is)
    (case b_all_ => k_is); (case b_bool_ => k_is); (case b_enumerate_ => k_is); (case b_int_ => k_is)
    (case b_isinstance_ => k_is); (case b_len_ => k_is); (case b_list_ => k_is); (case b_max_ => k_is)
    (case b_min_ => k_is); (case b_range_ => k_is); (case b_repr_ => k_is); (case b_sorted_ => k_is)
    (case b_sum_ => k_is); (case b_tuple_ => k_is); (case nL => first | rfl | k_is | decide +kernel)
