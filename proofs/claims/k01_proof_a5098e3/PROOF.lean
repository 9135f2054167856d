import PyProof.Rows.All
import Wide.All
import OpenK.AllK
import Wide.FinOn
import HandS.ForMost
import HandS.ForExc
import HandS.Flow
import HandS.IsInst
import HandS.Deep
import HandS.Lambda
import HandS.TupMul
import HandS.TupAny
import HandS.TupLe
import HandS.Conv
import HandS.SortInts
import HandS.SetKeys
import KE.GoesMore
import HandS.ExcInit
import KE.KTypeName
import HandS.ExcIs
import HandS.TryMany
import HandS.EndTab
import KE.KNest
import PySem.Challenge.RW_waryrig_k01_remedies_of_lots
set_option Elab.async false
set_option linter.all false
set_option maxRecDepth 100000
set_option maxHeartbeats 4000000
namespace L2
open PySem PySem.Spec PyProof.Rows
/-- the dict of an error: what it holds under "what" -/
def xw (d : Addr) (v : V) : HO := .ext fun h => ∃ mA, h.Ns1 d mA ∧ RelO (some v) (mA "what")
end L2
namespace Dn
open PySem PySem.Spec L2

/-! ## cold heaps -/
theorem sameT {K : PySem.W.Frag} {H H' : Hp} {a : Addr} {xs : List V} (e : Same H H') (h : SqT K H a xs) : SqT K H' a xs := by
  cases h with
  | inl h =>
    cases h with
    | inl h => exact Or.inl (Or.inl (e _ _ h))
    | inr h =>
      obtain ⟨o, h⟩ := h
      exact Or.inl (Or.inr ⟨o, e _ _ h⟩)
  | inr h => exact Or.inr h
mutual
theorem dpMono {K : PySem.W.Frag} {H H' : Hp} (e : Same H H') : ∀ {v : V} {d : PyData}, Dp K H v d → Dp K H' v d
  | _, _, .non => .non
  | _, _, .bl b => .bl b
  | _, _, .int i => .int i
  | _, _, .str x => .str x
  | _, _, .lst h hs => .lst (e.seq h) (dpaMono e hs)
  | _, _, .tup h hs => .tup (sameT e h) (dpaMono e hs)
theorem dpaMono {K : PySem.W.Frag} {H H' : Hp} (e : Same H H') : ∀ {vs : List V} {ds : List PyData}, DpAll K H vs ds → DpAll K H' vs ds
  | _, _, .nil => .nil
  | _, _, .cons h hs => .cons (dpMono e h) (dpaMono e hs)
end
theorem dpaLen {K : PySem.W.Frag} {H : Hp} : ∀ {vs : List V} {ds : List PyData}, DpAll K H vs ds → vs.length = ds.length
  | _, _, .nil => rfl
  | _, _, .cons _ hs => congrArg (· + 1) (dpaLen hs)
theorem dpaGet {K : PySem.W.Frag} {H : Hp} : ∀ {vs : List V} {ds : List PyData} {i : Nat} {d : PyData}, DpAll K H vs ds → ds[i]? = some d → ∃ v, vs[i]? = some v ∧ Dp K H v d
  | _, _, _, _, .nil, e => by simp at e
  | _, _, 0, _, .cons h _, e => by
    simp at e
    subst e
    exact ⟨_, rfl, h⟩
  | _, _, i + 1, d, .cons _ hs, e => by
    obtain ⟨v, h1, h2⟩ := dpaGet (i := i) (d := d) hs (by simpa using e)
    exact ⟨v, by simpa using h1, h2⟩
theorem dpaApp {K : PySem.W.Frag} {H : Hp} : ∀ {vs ws : List V} {ds es : List PyData}, DpAll K H vs ds → DpAll K H ws es → DpAll K H (vs ++ ws) (ds ++ es)
  | _, _, _, _, .nil, g => g
  | _, _, _, _, .cons h hs, g => .cons h (dpaApp hs g)
theorem dpaSet {K : PySem.W.Frag} {H : Hp} {v : V} {d : PyData} (h : Dp K H v d) : ∀ {vs : List V} {ds : List PyData} (i : Nat), DpAll K H vs ds → DpAll K H (vs.set i v) (ds.set i d)
  | _, _, _, .nil => .nil
  | _, _, 0, .cons _ hs => .cons h hs
  | _, _, i + 1, .cons g hs => .cons g (dpaSet h i hs)
theorem dpaTake {K : PySem.W.Frag} {H : Hp} : ∀ {vs : List V} {ds : List PyData} (n : Nat), DpAll K H vs ds → DpAll K H (vs.take n) (ds.take n)
  | _, _, 0, _ => .nil
  | _, _, _ + 1, .nil => .nil
  | _, _, n + 1, .cons h hs => .cons h (dpaTake n hs)
theorem dpaDrop {K : PySem.W.Frag} {H : Hp} : ∀ {vs : List V} {ds : List PyData} (n : Nat), DpAll K H vs ds → DpAll K H (vs.drop n) (ds.drop n)
  | _, _, 0, h => h
  | _, _, _ + 1, .nil => .nil
  | _, _, n + 1, .cons _ hs => dpaDrop n hs

/-- the written part holds no data here: every list and tuple stands in the heap -/
abbrev KD : PySem.W.Frag := []
theorem upL {K : PySem.W.Frag} {H : Hp} {a : Addr} {xs : List V} (h : SqL KD H a xs) : SqL K H a xs := by
  rcases h with h | ⟨o, its, n, hk, _⟩
  · exact Or.inl h
  · cases hk
theorem upT {K : PySem.W.Frag} {H : Hp} {a : Addr} {xs : List V} (h : SqT KD H a xs) : SqT K H a xs := by
  rcases h with h | ⟨o, its, n, hk, _⟩
  · exact Or.inl h
  · cases hk
mutual
theorem dpUp {K : PySem.W.Frag} {H : Hp} : ∀ {v : V} {d : PyData}, Dp KD H v d → Dp K H v d
  | _, _, .non => .non
  | _, _, .bl b => .bl b
  | _, _, .int i => .int i
  | _, _, .str x => .str x
  | _, _, .lst h hs => .lst (upL h) (dpaUp hs)
  | _, _, .tup h hs => .tup (upT h) (dpaUp hs)
theorem dpaUp {K : PySem.W.Frag} {H : Hp} : ∀ {vs : List V} {ds : List PyData}, DpAll KD H vs ds → DpAll K H vs ds
  | _, _, .nil => .nil
  | _, _, .cons h hs => .cons (dpUp h) (dpaUp hs)
end

/-! ## entities, environments, outcomes -/
inductive Ent where
  | val (d : PyData)
  | hot (xs : List PyData)
abbrev Rho := List (Option Ent)
inductive Out (α : Type) where
  | ok (a : α) (r : Rho)
  | ex (c : Str) (w : PyData) (r : Rho)
  | bad
abbrev Mi (α : Type) := Rho → Out α
def Mi.ret {α : Type} (a : α) : Mi α := fun r => .ok a r
def Mi.bind {α β : Type} (m : Mi α) (f : α → Mi β) : Mi β := fun r => match m r with
  | .ok a r' => f a r'
  | .ex c w r' => .ex c w r'
  | .bad => .bad
def Mi.opt {α : Type} (o : Option α) : Mi α := fun r => match o with
  | some a => .ok a r
  | none => .bad
/-- what a def returns: a value, or a list that nobody else holds -/
inductive Rv where
  | cold (d : PyData)
  | fresh (ds : List PyData)
inductive Fl where
  | nx (r : Rho)
  | rt (d : Rv) (r : Rho)
  | bk (r : Rho)
  | ct (r : Rho)
  | ex (c : Str) (w : PyData) (r : Rho)
  | bad

/-- what stood at the entry: the cold heap, the heap, the slots that hold a caller's list -/
structure Fr0 where
  C0 : Hp
  H0 : Hp
  pp : List (Nat × Addr)
  gd : List (Addr × List V) := []
  tb : List (Addr × Str) := []
  rw : List (Nat × Addr) := []
  B : Hp := fun _ => none

def slotOk (K : PySem.W.Frag) (C H : Hp) (v : V) : Ent → Prop
  | .val d => Dp K C v d
  | .hot xs => ∃ a vs, v = .ref a ∧ C a = none ∧ H a = some (.lst vs) ∧ DpAll K C vs xs

structure RE (K : PySem.W.Frag) (F : Fr0) (C : Hp) (σ : St) (H : Hp) (ρ : Rho) : Prop where
  c0 : Same F.C0 C
  ch : Same C H
  fr : ∀ b o, F.H0 b = some o → F.C0 b = none → C b = none ∧ (∃ o', H b = some o') ∧ ((∀ p ∈ F.pp, p.2 ≠ b) → (∀ ps, o ≠ .tbl ps) → H b = some o)
  sl : ∀ (i : Nat) (e : Ent), ρ[i]? = some (some e) → ∃ v, σ[i]? = some (some v) ∧ slotOk K C H v e
  inj : ∀ (i j : Nat) (xs ys : List PyData) (a : Addr), ρ[i]? = some (some (.hot xs)) → ρ[j]? = some (some (.hot ys)) → σ[i]? = some (some (.ref a)) → σ[j]? = some (some (.ref a)) → i = j
  own : ∀ (i : Nat) (xs : List PyData) (a : Addr), ρ[i]? = some (some (.hot xs)) → σ[i]? = some (some (.ref a)) → (i, a) ∈ F.pp ∨ F.H0 a = none
  pin : ∀ p ∈ F.pp, σ[p.1]? = some (some (.ref p.2)) ∧ ∃ xs, ρ[p.1]? = some (some (.hot xs))
  len : σ.length = ρ.length
  gds : ∀ q ∈ F.gd, C q.1 = none ∧ H q.1 = some (.lst q.2) ∧ F.H0 q.1 = none ∧ ∀ (j : Nat) (zs : List PyData), ρ[j]? = some (some (.hot zs)) → σ[j]? ≠ some (some (.ref q.1))
  tabs : LamX.Tabs F.tb H
  tabC : ∀ (b : Addr) (ps : Array Value), C b ≠ some (.tbl ps)
  raw : ∀ q ∈ F.rw, σ[q.1]? = some (some (.ref q.2))
  bb : Same F.B C

/-- the heap has grown by cold objects -/
structure Ext (C H C' H' : Hp) : Prop where
  cc : Same C C'
  ch : Same C' H'
  hh : Same H H'
  hot : ∀ b o, H b = some o → C b = none → C' b = none
  nt : ∀ (b : Addr) (ps : Array Value), C' b = some (.tbl ps) → C b = some (.tbl ps)
theorem Ext.refl {C H : Hp} (h : Same C H) : Ext C H C H := ⟨Same.refl _, h, Same.refl _, fun _ _ _ h => h, fun _ _ h => h⟩
theorem Ext.trans {C H C1 H1 C2 H2 : Hp} (a : Ext C H C1 H1) (b : Ext C1 H1 C2 H2) : Ext C H C2 H2 :=
  ⟨a.cc.trans b.cc, b.ch, a.hh.trans b.hh, fun x o h1 h2 => b.hot x o (a.hh _ _ h1) (a.hot x o h1 h2), fun x ps h => a.nt x ps (b.nt x ps h)⟩
theorem sameUpd {H : Hp} {p : Addr} {o : HO} (h : H p = none) : Same H (upd H p o) := fun b x e => by
  rw [upd_ne (ne_of_none e h)]
  exact e
theorem sameUpd2 {C H : Hp} {p : Addr} {o : HO} (s : Same C H) : Same (upd C p o) (upd H p o) := fun b x e => by
  by_cases hb : b = p
  · subst hb
    rw [upd_same] at e ⊢
    exact e
  · rw [upd_ne hb] at e ⊢
    exact s _ _ e
theorem Ext.new {C H : Hp} {p : Addr} {o : HO} (s : Same C H) (hn : H p = none) (ht : ∀ ps, o ≠ .tbl ps := by intro _ z; cases z) : Ext C H (upd C p o) (upd H p o) where
  nt := fun b ps h => by
    by_cases hb : b = p
    · subst hb
      rw [upd_same] at h
      exact absurd (Option.some.inj h) (ht ps)
    · rwa [upd_ne hb] at h
  cc := sameUpd (s.free hn)
  ch := sameUpd2 s
  hh := sameUpd hn
  hot := fun b x h1 h2 => by
    rw [upd_ne (ne_of_none h1 hn)]
    exact h2
theorem tabsUpd {T : List (Addr × Str)} {H : Hp} {a : Addr} {vs ws : List V} (h : LamX.Tabs T H) (ha : H a = some (.lst vs)) : LamX.Tabs T (upd H a (.lst ws)) := fun p hp => by
  obtain ⟨ps, e1, e2, e3⟩ := h p hp
  have n : p.1 ≠ a := fun z => by
    rw [z, ha] at e1
    cases e1
  refine ⟨ps, by rw [upd_ne n]; exact e1, e2, fun pos cv hc => ?_⟩
  obtain ⟨c, f1, f2⟩ := e3 pos cv hc
  refine ⟨c, f1, ?_⟩
  rw [upd_ne (fun z => by rw [z, ha] at f2; cases f2)]
  exact f2
theorem tabsNe {T : List (Addr × Str)} {H : Hp} {a : Addr} {vs : List V} (h : LamX.Tabs T H) (ha : H a = some (.lst vs)) : ∀ p ∈ T, p.1 ≠ a := fun p hp z => by
  obtain ⟨ps, e1, _⟩ := h p hp
  rw [z, ha] at e1
  cases e1
theorem ntUpd {C : Hp} {p : Addr} {vs : List V} (h : ∀ (b : Addr) (ps : Array Value), C b ≠ some (.tbl ps)) : ∀ (b : Addr) (ps : Array Value), upd C p (.lst vs) b ≠ some (.tbl ps) := fun b ps z => by
  by_cases hb : b = p
  · subst hb
    rw [upd_same] at z
    cases z
  · rw [upd_ne hb] at z
    exact h b ps z
theorem slotGrow {K : PySem.W.Frag} {C H C' H' : Hp} {v : V} {e : Ent} (x : Ext C H C' H') (h : slotOk K C H v e) : slotOk K C' H' v e := by
  cases e with
  | val d => exact dpMono x.cc h
  | hot xs =>
    obtain ⟨a, vs, rfl, h1, h2, h3⟩ := h
    exact ⟨a, vs, rfl, x.hot _ _ h2 h1, x.hh _ _ h2, dpaMono x.cc h3⟩
section
variable {K : PySem.W.Frag} {F : Fr0} {C H C' H' : Hp} {σ : St} {ρ : Rho}
theorem RE.grow (R : RE K F C σ H ρ) (x : Ext C H C' H') : RE K F C' σ H' ρ where
  c0 := R.c0.trans x.cc
  ch := x.ch
  fr := fun b o h1 h2 => by
    obtain ⟨e1, ⟨o', e2⟩, e3⟩ := R.fr b o h1 h2
    exact ⟨x.hot _ _ e2 e1, ⟨o', x.hh _ _ e2⟩, fun z n => x.hh _ _ (e3 z n)⟩
  sl := fun i e h => by
    obtain ⟨v, e1, e2⟩ := R.sl i e h
    exact ⟨v, e1, slotGrow x e2⟩
  inj := R.inj
  own := R.own
  pin := R.pin
  len := R.len
  gds := fun q hq => by
    obtain ⟨e1, e2, e3, e4⟩ := R.gds q hq
    exact ⟨x.hot _ _ e2 e1, x.hh _ _ e2, e3, e4⟩
  tabs := R.tabs.ext x.hh
  tabC := fun b ps z => R.tabC b ps (x.nt b ps z)
  raw := R.raw
  bb := R.bb.trans x.cc
/-- a slot gets a cold value -/
theorem RE.setVal (R : RE K F C σ H ρ) {i : Nat} {v : V} {d : PyData} (hp : ∀ p ∈ F.pp ++ F.rw, p.1 ≠ i) (h : Dp K C v d) : RE K F C (σ.set i (some v)) H (ρ.set i (some (.val d))) where
  c0 := R.c0
  ch := R.ch
  fr := R.fr
  sl := fun j e hj => by
    by_cases hji : i = j
    · subst hji
      by_cases hl : i < ρ.length
      · rw [List.getElem?_set_self hl] at hj
        cases hj
        exact ⟨v, by rw [List.getElem?_set_self (by rw [R.len]; exact hl)], h⟩
      · rw [List.getElem?_eq_none (by simpa using hl)] at hj
        cases hj
    · rw [List.getElem?_set_ne hji] at hj
      obtain ⟨u, e1, e2⟩ := R.sl j e hj
      exact ⟨u, by rw [List.getElem?_set_ne hji]; exact e1, e2⟩
  inj := fun j k xs ys a h1 h2 h3 h4 => by
    have nj : ∀ (j : Nat) (xs : List PyData), (ρ.set i (some (.val d)))[j]? = some (some (.hot xs)) → i ≠ j := fun j xs h z => by
      subst z
      by_cases hl : i < ρ.length
      · rw [List.getElem?_set_self hl] at h
        cases h
      · rw [List.getElem?_eq_none (by simpa using hl)] at h
        cases h
    have n1 := nj j xs h1
    have n2 := nj k ys h2
    rw [List.getElem?_set_ne n1] at h1 h3
    rw [List.getElem?_set_ne n2] at h2 h4
    exact R.inj j k xs ys a h1 h2 h3 h4
  own := fun j xs a h1 h2 => by
    have n1 : i ≠ j := fun z => by
      subst z
      by_cases hl : i < ρ.length
      · rw [List.getElem?_set_self hl] at h1
        cases h1
      · rw [List.getElem?_eq_none (by simpa using hl)] at h1
        cases h1
    rw [List.getElem?_set_ne n1] at h1 h2
    exact R.own j xs a h1 h2
  pin := fun p hp' => by
    obtain ⟨e1, xs, e2⟩ := R.pin p hp'
    have n : i ≠ p.1 := fun z => hp p (List.mem_append_left _ hp') z.symm
    exact ⟨by rw [List.getElem?_set_ne n]; exact e1, xs, by rw [List.getElem?_set_ne n]; exact e2⟩
  len := by simp [R.len]
  gds := fun q hq => by
    obtain ⟨e1, e2, e3, e4⟩ := R.gds q hq
    refine ⟨e1, e2, e3, fun j zs h => ?_⟩
    have n1 : i ≠ j := fun z => by
      subst z
      by_cases hl : i < ρ.length
      · rw [List.getElem?_set_self hl] at h
        cases h
      · rw [List.getElem?_eq_none (by simpa using hl)] at h
        cases h
    rw [List.getElem?_set_ne n1] at h ⊢
    exact e4 j zs h
  tabs := R.tabs
  tabC := R.tabC
  raw := fun q hq => by
    rw [List.getElem?_set_ne (fun z => hp q (List.mem_append_right _ hq) z.symm)]
    exact R.raw q hq
  bb := R.bb
/-- a slot is forgotten -/
theorem RE.drop (R : RE K F C σ H ρ) {i : Nat} {o : Option V} (hp : ∀ p ∈ F.pp ++ F.rw, p.1 ≠ i) : RE K F C (σ.set i o) H (ρ.set i none) where
  c0 := R.c0
  ch := R.ch
  fr := R.fr
  sl := fun j e hj => by
    have n : i ≠ j := fun z => by
      subst z
      by_cases hl : i < ρ.length
      · rw [List.getElem?_set_self hl] at hj
        cases hj
      · rw [List.getElem?_eq_none (by simpa using hl)] at hj
        cases hj
    rw [List.getElem?_set_ne n] at hj
    obtain ⟨u, e1, e2⟩ := R.sl j e hj
    exact ⟨u, by rw [List.getElem?_set_ne n]; exact e1, e2⟩
  inj := fun j k xs ys a h1 h2 h3 h4 => by
    have nj : ∀ (j : Nat) (xs : List PyData), (ρ.set i none)[j]? = some (some (.hot xs)) → i ≠ j := fun j xs h z => by
      subst z
      by_cases hl : i < ρ.length
      · rw [List.getElem?_set_self hl] at h
        cases h
      · rw [List.getElem?_eq_none (by simpa using hl)] at h
        cases h
    have n1 := nj j xs h1
    have n2 := nj k ys h2
    rw [List.getElem?_set_ne n1] at h1 h3
    rw [List.getElem?_set_ne n2] at h2 h4
    exact R.inj j k xs ys a h1 h2 h3 h4
  own := fun j xs a h1 h2 => by
    have n1 : i ≠ j := fun z => by
      subst z
      by_cases hl : i < ρ.length
      · rw [List.getElem?_set_self hl] at h1
        cases h1
      · rw [List.getElem?_eq_none (by simpa using hl)] at h1
        cases h1
    rw [List.getElem?_set_ne n1] at h1 h2
    exact R.own j xs a h1 h2
  pin := fun p hp' => by
    obtain ⟨e1, xs, e2⟩ := R.pin p hp'
    have n : i ≠ p.1 := fun z => hp p (List.mem_append_left _ hp') z.symm
    exact ⟨by rw [List.getElem?_set_ne n]; exact e1, xs, by rw [List.getElem?_set_ne n]; exact e2⟩
  len := by simp [R.len]
  gds := fun q hq => by
    obtain ⟨e1, e2, e3, e4⟩ := R.gds q hq
    refine ⟨e1, e2, e3, fun j zs h => ?_⟩
    have n1 : i ≠ j := fun z => by
      subst z
      by_cases hl : i < ρ.length
      · rw [List.getElem?_set_self hl] at h
        cases h
      · rw [List.getElem?_eq_none (by simpa using hl)] at h
        cases h
    rw [List.getElem?_set_ne n1] at h ⊢
    exact e4 j zs h
  tabs := R.tabs
  tabC := R.tabC
  raw := fun q hq => by
    rw [List.getElem?_set_ne (fun z => hp q (List.mem_append_right _ hq) z.symm)]
    exact R.raw q hq
  bb := R.bb
theorem RE.hotAt (R : RE K F C σ H ρ) {i : Nat} {xs : List PyData} (h : ρ[i]? = some (some (.hot xs))) : ∃ a vs, σ[i]? = some (some (.ref a)) ∧ C a = none ∧ H a = some (.lst vs) ∧ DpAll K C vs xs := by
  obtain ⟨v, e, a, vs, rfl, h1, h2, h3⟩ := R.sl i _ h
  exact ⟨a, vs, e, h1, h2, h3⟩
/-- a hot list is written -/
theorem RE.write (R : RE K F C σ H ρ) {i : Nat} {xs ys : List PyData} {a : Addr} {ws : List V} (h : ρ[i]? = some (some (.hot xs))) (ha : σ[i]? = some (some (.ref a))) (hw : DpAll K C ws ys) :
    RE K F C σ (upd H a (.lst ws)) (ρ.set i (some (.hot ys))) := by
  obtain ⟨a', vs, e, h1, h2, h3⟩ := R.hotAt h
  rw [ha] at e
  cases e
  have hl : i < ρ.length := by
    rcases Nat.lt_or_ge i ρ.length with z | z
    · exact z
    · rw [List.getElem?_eq_none z] at h
      cases h
  have back : ∀ (j : Nat) (zs : List PyData), (ρ.set i (some (.hot ys)))[j]? = some (some (.hot zs)) → ∃ zs', ρ[j]? = some (some (.hot zs')) := fun j zs q => by
    by_cases hij : i = j
    · subst hij
      exact ⟨xs, h⟩
    · rw [List.getElem?_set_ne hij] at q
      exact ⟨zs, q⟩
  refine ⟨R.c0, fun b o q => ?_, fun b o q1 q2 => ?_, fun j e hj => ?_, fun j k zs ws a' q1 q2 q3 q4 => ?_, fun j zs a' q1 q2 => ?_, fun p hp => ?_, by simp [R.len], fun g hg => ?_, tabsUpd R.tabs h2, R.tabC, R.raw, R.bb⟩
  · rw [upd_ne (fun z => by subst z; rw [h1] at q; cases q)]
    exact R.ch _ _ q
  · obtain ⟨e1, ⟨o', e2⟩, e3⟩ := R.fr b o q1 q2
    refine ⟨e1, ?_, fun z nt => ?_⟩
    · by_cases hb : b = a
      · subst hb
        exact ⟨_, upd_same⟩
      · exact ⟨o', by rw [upd_ne hb]; exact e2⟩
    · have hb : b ≠ a := fun y => by
        subst y
        rcases R.own i xs b h ha with w | w
        · exact z _ w rfl
        · rw [w] at q1
          cases q1
      rw [upd_ne hb]
      exact e3 z nt
  · by_cases hij : i = j
    · subst hij
      rw [List.getElem?_set_self hl] at hj
      cases hj
      exact ⟨.ref a, ha, a, ws, rfl, h1, upd_same, hw⟩
    · rw [List.getElem?_set_ne hij] at hj
      obtain ⟨v, e1, e2⟩ := R.sl j e hj
      refine ⟨v, e1, ?_⟩
      cases e with
      | val d => exact e2
      | hot zs =>
        obtain ⟨b, us, rfl, g1, g2, g3⟩ := e2
        have hb : b ≠ a := fun y => by
          subst y
          exact hij (R.inj i j xs zs b h hj ha e1)
        exact ⟨b, us, rfl, g1, by rw [upd_ne hb]; exact g2, g3⟩
  · obtain ⟨z1, y1⟩ := back j zs q1
    obtain ⟨z2, y2⟩ := back k ws q2
    exact R.inj j k z1 z2 a' y1 y2 q3 q4
  · obtain ⟨z1, y1⟩ := back j zs q1
    exact R.own j z1 a' y1 q2
  · obtain ⟨e1, zs, e2⟩ := R.pin p hp
    refine ⟨e1, ?_⟩
    by_cases hij : i = p.1
    · exact ⟨ys, by rw [← hij, List.getElem?_set_self hl]⟩
    · exact ⟨zs, by rw [List.getElem?_set_ne hij]; exact e2⟩
  · obtain ⟨e1, e2, e3, e4⟩ := R.gds g hg
    refine ⟨e1, ?_, e3, fun j zs q => ?_⟩
    · rw [upd_ne (fun z => e4 i xs h (by rw [z]; exact ha))]
      exact e2
    · obtain ⟨z1, y1⟩ := back j zs q
      exact e4 j z1 y1
/-- a new list is put into a slot, hot -/
theorem RE.setHot (R : RE K F C σ H ρ) {i : Nat} {p : Addr} {ws : List V} {ys : List PyData} (hp : ∀ q ∈ F.pp ++ F.rw, q.1 ≠ i) (hn : C p = none) (hh : H p = some (.lst ws)) (hw : DpAll K C ws ys)
    (hx : ∀ (j : Nat) (zs : List PyData), ρ[j]? = some (some (.hot zs)) → σ[j]? ≠ some (some (.ref p))) (h0 : F.H0 p = none) (hg : ∀ q ∈ F.gd, q.1 ≠ p) :
    RE K F C (σ.set i (some (.ref p))) H (ρ.set i (some (.hot ys))) := by
  have pos : ∀ (j : Nat) (e : Ent), (ρ.set i (some (.hot ys)))[j]? = some (some e) → (j = i ∧ e = .hot ys ∧ i < ρ.length) ∨ (i ≠ j ∧ ρ[j]? = some (some e)) := fun j e q => by
    by_cases hij : i = j
    · subst hij
      by_cases hl : i < ρ.length
      · rw [List.getElem?_set_self hl] at q
        cases q
        exact Or.inl ⟨rfl, rfl, hl⟩
      · rw [List.getElem?_eq_none (by simpa using hl)] at q
        cases q
    · rw [List.getElem?_set_ne hij] at q
      exact Or.inr ⟨hij, q⟩
  refine ⟨R.c0, R.ch, R.fr, fun j e hj => ?_, fun j k zs us a q1 q2 q3 q4 => ?_, fun j zs a q1 q2 => ?_, fun q hq => ?_, by simp [R.len], fun g hg' => ?_, R.tabs, R.tabC, fun q hq => by rw [List.getElem?_set_ne (fun z => hp q (List.mem_append_right _ hq) z.symm)]; exact R.raw q hq, R.bb⟩
  · rcases pos j e hj with ⟨rfl, rfl, hl⟩ | ⟨n, q⟩
    · exact ⟨.ref p, by rw [List.getElem?_set_self (by rw [R.len]; exact hl)], p, ws, rfl, hn, hh, hw⟩
    · obtain ⟨v, e1, e2⟩ := R.sl j e q
      exact ⟨v, by rw [List.getElem?_set_ne n]; exact e1, e2⟩
  · rcases pos j _ q1 with ⟨rfl, _, hl⟩ | ⟨n, q⟩
    · rcases pos k _ q2 with ⟨rfl, _, _⟩ | ⟨n2, y2⟩
      · rfl
      · rw [List.getElem?_set_self (by rw [R.len]; exact hl)] at q3
        cases q3
        rw [List.getElem?_set_ne n2] at q4
        exact absurd q4 (hx k _ y2)
    · rcases pos k _ q2 with ⟨rfl, _, hl⟩ | ⟨n2, y2⟩
      · rw [List.getElem?_set_self (by rw [R.len]; exact hl)] at q4
        cases q4
        rw [List.getElem?_set_ne n] at q3
        exact absurd q3 (hx j _ q)
      · rw [List.getElem?_set_ne n] at q3
        rw [List.getElem?_set_ne n2] at q4
        exact R.inj j k _ _ a q y2 q3 q4
  · rcases pos j _ q1 with ⟨rfl, _, hl⟩ | ⟨n, q⟩
    · rw [List.getElem?_set_self (by rw [R.len]; exact hl)] at q2
      cases q2
      exact Or.inr h0
    · rw [List.getElem?_set_ne n] at q2
      exact R.own j _ a q q2
  · obtain ⟨e1, zs, e2⟩ := R.pin q hq
    have n : i ≠ q.1 := fun z => hp q (List.mem_append_left _ hq) z.symm
    exact ⟨by rw [List.getElem?_set_ne n]; exact e1, zs, by rw [List.getElem?_set_ne n]; exact e2⟩
  · obtain ⟨e1, e2, e3, e4⟩ := R.gds g hg'
    refine ⟨e1, e2, e3, fun j zs q => ?_⟩
    rcases pos j _ q with ⟨rfl, _, hl⟩ | ⟨n, y⟩
    · rw [List.getElem?_set_self (by rw [R.len]; exact hl)]
      intro z
      cases z
      exact hg g hg' rfl
    · rw [List.getElem?_set_ne n]
      exact e4 j zs y
/-- a hot list of one's own grows cold -/
theorem RE.freeze (R : RE K F C σ H ρ) {i : Nat} {xs : List PyData} (h : ρ[i]? = some (some (.hot xs))) (hp : ∀ p ∈ F.pp ++ F.rw, p.1 ≠ i) :
    ∃ a C', σ[i]? = some (some (.ref a)) ∧ Same C C' ∧ Dp K C' (.ref a) (.list xs) ∧ RE K F C' σ H (ρ.set i (some (.val (.list xs)))) := by
  obtain ⟨a, vs, e, h1, h2, h3⟩ := R.hotAt h
  have hl : i < ρ.length := by
    rcases Nat.lt_or_ge i ρ.length with z | z
    · exact z
    · rw [List.getElem?_eq_none z] at h
      cases h
  have h0 : F.H0 a = none := by
    rcases R.own i xs a h e with w | w
    · exact absurd rfl (hp _ (List.mem_append_left _ w))
    · exact w
  have s1 : Same C (upd C a (.lst vs)) := sameUpd h1
  have hd : Dp K (upd C a (.lst vs)) (.ref a) (.list xs) := .lst (.inl (.inl upd_same)) (dpaMono s1 h3)
  have pos : ∀ (j : Nat) (zs : List PyData), (ρ.set i (some (.val (.list xs))))[j]? = some (some (.hot zs)) → i ≠ j ∧ ρ[j]? = some (some (.hot zs)) := fun j zs q => by
    by_cases hij : i = j
    · subst hij
      rw [List.getElem?_set_self hl] at q
      cases q
    · rw [List.getElem?_set_ne hij] at q
      exact ⟨hij, q⟩
  refine ⟨a, upd C a (.lst vs), e, s1, hd, R.c0.trans s1, fun b o q => ?_, fun b o q1 q2 => ?_, fun j e' hj => ?_, fun j k zs us a' q1 q2 q3 q4 => ?_, fun j zs a' q1 q2 => ?_, fun p hp' => ?_, by simp [R.len], fun g hg => ?_, R.tabs, ntUpd R.tabC, R.raw, R.bb.trans s1⟩
  · by_cases hb : b = a
    · subst hb
      rw [upd_same] at q
      cases q
      exact h2
    · rw [upd_ne hb] at q
      exact R.ch _ _ q
  · obtain ⟨e1, e2, e3⟩ := R.fr b o q1 q2
    refine ⟨?_, e2, e3⟩
    rw [upd_ne (fun z => by subst z; rw [h0] at q1; cases q1)]
    exact e1
  · by_cases hij : i = j
    · subst hij
      rw [List.getElem?_set_self hl] at hj
      cases hj
      exact ⟨.ref a, e, hd⟩
    · rw [List.getElem?_set_ne hij] at hj
      obtain ⟨v, e1, e2⟩ := R.sl j e' hj
      refine ⟨v, e1, ?_⟩
      cases e' with
      | val d => exact dpMono s1 e2
      | hot zs =>
        obtain ⟨b, us, rfl, g1, g2, g3⟩ := e2
        have hb : b ≠ a := fun y => by
          subst y
          exact hij (R.inj i j xs zs b h hj e e1)
        exact ⟨b, us, rfl, by rw [upd_ne hb]; exact g1, g2, dpaMono s1 g3⟩
  · exact R.inj j k zs us a' (pos j zs q1).2 (pos k us q2).2 q3 q4
  · exact R.own j zs a' (pos j zs q1).2 q2
  · obtain ⟨e1, zs, e2⟩ := R.pin p hp'
    have n : i ≠ p.1 := fun z => hp p (List.mem_append_left _ hp') z.symm
    exact ⟨e1, zs, by rw [List.getElem?_set_ne n]; exact e2⟩
  · obtain ⟨e1, e2, e3, e4⟩ := R.gds g hg
    refine ⟨?_, e2, e3, fun j zs q => e4 j zs (pos j zs q).2⟩
    rw [upd_ne (fun z => e4 i xs h (by rw [z]; exact e))]
    exact e1
end
end Dn
set_option maxHeartbeats 4000000
namespace Dn
open PySem PySem.Spec L2

structure Pn where
  ps : List Nat
  tb : List (Addr × Str)
  ok : Fr0 → Prop
def FOk (F : Fr0) (P : Pn) : Prop := (F.pp ++ F.rw).map (·.1) = P.ps ∧ F.tb = P.tb ∧ P.ok F
def XP (X : Cx) (F : Fr0) (W : WX) (C : Hp) (σ : L2.St) (c : Str) (w : PyData) (r : Rho) : Prop :=
  ∀ (A d : Addr) (v : V) (C' H' : Hp), X.mg c = some (.ref A) → Same C C' → RE KD F C' σ H' r → C' d = some (xw d v) → Dp KD C' v w → W (.ref A) (some d) σ H'
def Po {α β : Type} (X : Cx) (F : Fr0) (W : WX) (Rel : L2.St → Hp → β → α → Prop) (C : Hp) (σ : L2.St) (Q : β → Hp → Prop) : Out α → Prop
  | .ok a r => ∀ b C' H', Same C C' → RE KD F C' σ H' r → Rel σ C' b a → Q b H'
  | .ex c w r => XP X F W C σ c w r
  | .bad => False
def tM {α β : Type} (X : Cx) (F : Fr0) (W : WX) (Rel : L2.St → Hp → β → α → Prop) (m : Mi α) : L2.St → Hp → (β → Hp → Prop) → Prop := fun σ H Q =>
  ∃ C ρ, RE KD F C σ H ρ ∧ Po X F W Rel C σ Q (m ρ)
section
variable {X : Cx} {F : Fr0} {W : WX} {C C' : Hp} {σ : L2.St}
theorem XP.mono {c : Str} {w : PyData} {r : Rho} (h : XP X F W C σ c w r) (s : Same C C') : XP X F W C' σ c w r := fun A d v C2 H' h1 h2 => h A d v C2 H' h1 (s.trans h2)
theorem Po.mono {α β : Type} {Rel : L2.St → Hp → β → α → Prop} {Q : β → Hp → Prop} {o : Out α} (h : Po X F W Rel C σ Q o) (s : Same C C') : Po X F W Rel C' σ Q o := by
  cases o with
  | ok a r => exact fun b C2 H' h1 => h b C2 H' (s.trans h1)
  | ex c w r => exact XP.mono h s
  | bad => exact h
theorem Po.imp {α β : Type} {Rel : L2.St → Hp → β → α → Prop} {Q Q' : β → Hp → Prop} {o : Out α} (h : Po X F W Rel C σ Q o) (q : ∀ b H, Q b H → Q' b H) : Po X F W Rel C σ Q' o := by
  cases o with
  | ok a r => exact fun b C2 H' h1 h2 h3 => q _ _ (h b C2 H' h1 h2 h3)
  | ex c w r => exact h
  | bad => exact h
theorem poBind {α β γ δ : Type} {Rel1 : L2.St → Hp → β → α → Prop} {Rel2 : L2.St → Hp → δ → γ → Prop} {ma : Mi α} {f : α → Mi γ} {Q : δ → Hp → Prop} {ρ : Rho} (h : Po X F W Rel2 C σ Q ((ma.bind f) ρ)) :
    Po X F W Rel1 C σ (fun b H1 => ∃ C1 ρ1 a, Same C C1 ∧ RE KD F C1 σ H1 ρ1 ∧ Rel1 σ C1 b a ∧ Po X F W Rel2 C1 σ Q (f a ρ1)) (ma ρ) := by
  unfold Mi.bind at h
  cases e : ma ρ with
  | ok a r =>
    rw [e] at h
    exact fun b C1 H1 s R d => ⟨C1, r, a, s, R, d, h.mono s⟩
  | ex c w r =>
    rw [e] at h
    exact h
  | bad =>
    rw [e] at h
    exact h
theorem poRet {α β : Type} {Rel : L2.St → Hp → β → α → Prop} {Q : β → Hp → Prop} {H : Hp} {ρ : Rho} {a : α} {b : β} (h : Po X F W Rel C σ Q (.ok a ρ)) (R : RE KD F C σ H ρ) (d : Rel σ C b a) : Q b H := h b C H (Same.refl _) R d
end

def RelD (X : Cx) : L2.St → Hp → V → PyData → Prop := fun _ C v d => Dp KD C v d
def RelB : L2.St → Hp → Bool → Bool → Prop := fun _ _ b a => b = a
def RelL (X : Cx) (n : Nat) : L2.St → Hp → List V → List PyData → Prop := fun _ C vs ds => DpAll KD C vs ds ∧ ds.length = n
/-- an expression, a test, a row of expressions -/
def DE (X : Cx) (W : WX) (P : Pn) (m : Mi PyData) (e : Expr) : Prop := ∀ F : Fr0, FOk F P → PE X e (tM X F W (RelD X) m)
def DT (X : Cx) (W : WX) (P : Pn) (m : Mi Bool) (e : Expr) : Prop := ∀ F : Fr0, FOk F P → PT X e (tM X F W RelB m)
def DA (X : Cx) (W : WX) (P : Pn) (m : Mi (List PyData)) (es : List Expr) : Prop := ∀ F : Fr0, FOk F P → PA X es (tM X F W (RelL X es.length) m)
theorem notPin {F : Fr0} {P : Pn} {i : Nat} (h : FOk F P) (hi : i ∉ P.ps) : ∀ p ∈ F.pp ++ F.rw, p.1 ≠ i := fun p hp e => hi (by
  rw [← h.1, ← e]
  exact List.mem_map_of_mem hp)
theorem peImp {X : Cx} {e : Expr} {t t' : TE} (h : PE X e t) (i : ∀ (σ : L2.St) H Q, t' σ H Q → t σ H Q) : PE X e t' := ⟨fun pins s σ H Q I w => h.run pins s σ H Q I (i σ H Q w)⟩
theorem ptImp {X : Cx} {e : Expr} {t t' : TT} (h : PT X e t) (i : ∀ (σ : L2.St) H Q, t' σ H Q → t σ H Q) : PT X e t' := ⟨fun pins s σ H Q I w => h.run pins s σ H Q I (i σ H Q w)⟩
theorem paImp {X : Cx} {es : List Expr} {t t' : TA} (h : PA X es t) (i : ∀ (σ : L2.St) H Q, t' σ H Q → t σ H Q) : PA X es t' := ⟨fun ps pins s σ H Q I w => h.run ps pins s σ H Q I (i σ H Q w)⟩

section
variable {X : Cx} {W : WX} {P : Pn} {a b c e : Expr} {es rest : List Expr} {ma mb mc : Mi PyData} {pos : Pos}

/-! ### constants, names -/
theorem deConst {v : V} {d : PyData} (h : PE X e (tC v)) (hd : ∀ C, Dp KD C v d) : DE X W P (Mi.ret d) e := fun F _ => peImp h fun σ H Q ⟨C, ρ, R, p⟩ => poRet p R (hd C)
theorem deInt {i j} : DE X W P (Mi.ret (.int i)) (.Constant (.int i) j pos) := deConst pe_int fun _ => .int i
theorem deBl {k j} : DE X W P (Mi.ret (.bool k)) (.Constant (.bool k) j pos) := deConst pe_bl fun _ => .bl k
theorem deNon {j} : DE X W P (Mi.ret .none) (.Constant .none j pos) := deConst pe_non fun _ => .non
theorem deStr {x j} : DE X W P (Mi.ret (.str x)) (.Constant (.str x) j pos) := deConst pe_str fun _ => .str x
/-- a constant of the module's top -/
theorem deGlob {x : Str} {v : V} {u : Value} {d : PyData} (hg : Gl X x) (hm : X.mg x = some u) (r : RelV v u) (hd : ∀ C, Dp KD C v d) (hdb : (x == ("__debug__" : Str)) = false := by decide) : DE X W P (Mi.ret d) (.Name x pos) := deConst (pe_glob hg hm r hdb) hd
def mVar (i : Nat) : Mi PyData := fun r => match r[i]? with
  | some (some (.val d)) => .ok d r
  | some (some (.hot xs)) => .ok (.list xs) (r.set i (some (.val (.list xs))))
  | _ => .bad
theorem deVar {i : Nat} {x : Str} (h : PE X (.Name x pos) (tVar i)) (hi : i ∉ P.ps) : DE X W P (mVar i) (.Name x pos) := fun F hF => peImp h fun σ H Q ⟨C, ρ, R, p⟩ => by
  unfold mVar at p
  cases e : ρ[i]? with
  | none =>
    rw [e] at p
    exact p.elim
  | some o =>
    rw [e] at p
    cases o with
    | none => exact p.elim
    | some en =>
      cases en with
      | val d =>
        obtain ⟨v, e1, e2⟩ := R.sl i _ e
        exact ⟨v, e1, poRet p R e2⟩
      | hot xs =>
        obtain ⟨a, C', e1, s, d, R'⟩ := R.freeze e (notPin hF hi)
        exact ⟨_, e1, p _ C' H s R' d⟩

/-! ### operators -/
def rD (f : PyData → PyData → Option PyData) : R2 := fun x y H Q => ∃ C a b d, f a b = some d ∧ Same C H ∧ Dp KD C x a ∧ Dp KD C y b ∧ ∀ v C' H', Ext C H C' H' → Dp KD C' v d → Q v H'
def mBin (f : PyData → PyData → Option PyData) (ma mb : Mi PyData) : Mi PyData := ma.bind fun a => mb.bind fun b => Mi.opt (f a b)
theorem opImp {F : Fr0} (hF : FOk F P) {f : PyData → PyData → Option PyData} {σ : L2.St} {H : Hp} {Q : VK} (h : tM X F W (RelD X) (mBin f ma mb) σ H Q) :
    tOp (rD f) (tM X F W (RelD X) ma) (tM X F W (RelD X) mb) σ H Q := by
  obtain ⟨C, ρ, R, h⟩ := h
  refine ⟨C, ρ, R, (poBind h).imp fun x H1 ⟨C1, ρ1, a, s1, R1, d1, h1⟩ => ⟨C1, ρ1, R1, (poBind h1).imp fun y H2 ⟨C2, ρ2, b, s2, R2, d2, h2⟩ => ?_⟩⟩
  cases e : f a b with
  | none =>
    simp only [e, Mi.opt] at h2
    exact h2.elim
  | some d =>
    simp only [e, Mi.opt] at h2
    exact ⟨C2, a, b, d, e, R2.ch, dpMono s2 d1, d2, fun v C' H' ex dv => h2 v C' H' ex.cc (R2.grow ex) dv⟩
theorem deOp {op : Operator} {f : PyData → PyData → Option PyData} (ho : OpR X (binaryOp op) (rD f)) (ha : DE X W P ma a) (hb : DE X W P mb b) : DE X W P (mBin f ma mb) (.BinOp a op b pos) :=
  fun F hF => peImp (pe_op ho (ha F hF) (hb F hF)) fun σ H Q h => opImp hF h
theorem deCmp {op : CmpOp} {f : PyData → PyData → Option PyData} (ho : OpR X (compareOp op) (rD f)) (ha : DE X W P ma a) (hb : DE X W P mb b) (hm : behindInMarks op b = false) : DE X W P (mBin f ma mb) (.Compare a [op] [b] pos) :=
  fun F hF => peImp (pe_cmpR ho (ha F hF) (hb F hF) hm) fun σ H Q h => opImp hF h
def mIx (f : PyData → PyData → Option PyData) (ma mb : Mi PyData) : Mi PyData := mBin f ma mb
theorem deIx {f : PyData → PyData → Option PyData} (ho : IxR X (rD f)) (ha : DE X W P ma a) (hb : DE X W P mb b) (hs : PlainIx b) : DE X W P (mBin f ma mb) (.Subscript a b pos) :=
  fun F hF => peImp (pe_ix ho (ha F hF) (hb F hF) hs) fun σ H Q h => opImp hF h

/-! ### truth -/
def truth : PyData → Option Bool
  | .none => some false
  | .bool b => some b
  | .int i => some (i != 0)
  | .list xs => some (!xs.isEmpty)
  | .tuple xs => some (!xs.isEmpty)
  | _ => none
theorem dpaEmpty {K : PySem.W.Frag} {H : Hp} {vs : List V} {ds : List PyData} (h : DpAll K H vs ds) : (!ds.isEmpty) = !vs.isEmpty := by
  cases h <;> rfl
theorem truOk {K : PySem.W.Frag} {C H : Hp} {x : V} {d : PyData} {k : Bool} (s : Same C H) (h : Dp KD C x d) (e : truth d = some k) : TruV K x H k := by
  cases h with
  | non => exact (Option.some.inj e).symm
  | bl b => exact (Option.some.inj e).symm
  | int i => exact (Option.some.inj e).symm
  | str z => cases e
  | lst h1 h2 => exact .inl ⟨_, upL (s.seq h1), (Option.some.inj e).symm.trans (dpaEmpty h2)⟩
  | tup h1 h2 => exact .inr (.inl ⟨_, upT (sameT s h1), (Option.some.inj e).symm.trans (dpaEmpty h2)⟩)
def mTru (m : Mi PyData) : Mi Bool := m.bind fun d => Mi.opt (truth d)
theorem dtOf (h : DE X W P ma a) (he : ∀ whole, isTrue a X.env whole = (do let v ← whole; standAt a.pos; holding [v] (truthy v)) := by intro _; rfl) : DT X W P (mTru ma) a :=
  fun F hF => ptImp (pt_truth (h F hF) he) fun σ H Q ⟨C, ρ, R, p⟩ => ⟨C, ρ, R, (poBind p).imp fun x H1 ⟨C1, ρ1, d, s1, R1, d1, h1⟩ => by
    cases e : truth d with
    | none =>
      simp only [e, Mi.opt] at h1
      exact h1.elim
    | some k =>
      simp only [e, Mi.opt] at h1
      exact ⟨k, truOk R1.ch d1 e, poRet h1 R1 rfl⟩⟩
/-- a comparison as a test -/
def fB (f : PyData → PyData → Option Bool) : PyData → PyData → Option PyData := fun a b => (f a b).map PyData.bool
def mTst (f : PyData → PyData → Option Bool) (ma mb : Mi PyData) : Mi Bool := ma.bind fun a => mb.bind fun b => Mi.opt (f a b)
theorem dtCmp {op : CmpOp} {f : PyData → PyData → Option Bool} (ho : OpR X (compareOp op) (rD (fB f))) (ha : DE X W P ma a) (hb : DE X W P mb b) (hm : behindInMarks op b = false) : DT X W P (mTst f ma mb) (.Compare a [op] [b] pos) :=
  fun F hF => ptImp (pt_cmpR ho (ha F hF) (hb F hF) hm) fun σ H Q ⟨C, ρ, R, h⟩ => by
    refine ⟨C, ρ, R, (poBind h).imp fun x H1 ⟨C1, ρ1, a, s1, R1, d1, h1⟩ => ⟨C1, ρ1, R1, (poBind h1).imp fun y H2 ⟨C2, ρ2, b, s2, R2, d2, h2⟩ => ?_⟩⟩
    cases e : f a b with
    | none =>
      simp only [e, Mi.opt] at h2
      exact h2.elim
    | some k =>
      simp only [e, Mi.opt] at h2
      refine ⟨C2, a, b, .bool k, by simp [fB, e], R2.ch, dpMono s2 d1, d2, fun v C' H' ex dv => ?_⟩
      cases dv
      exact ⟨k, rfl, h2 k C' H' ex.cc (R2.grow ex) rfl⟩
/-- a < b < c -/
def mChain (f g : PyData → PyData → Option Bool) (ma mb mc : Mi PyData) : Mi PyData := ma.bind fun a => mb.bind fun b => (Mi.opt (f a b)).bind fun k => if k then mc.bind fun c => Mi.opt (fB g b c) else Mi.ret (.bool false)
theorem deChain {op op' : CmpOp} {f g : PyData → PyData → Option Bool} {pos} (ho : OpR X (compareOp op) (rD (fB f))) (ho' : OpR X (compareOp op') (rD (fB g))) (ha : DE X W P ma a) (hb : DE X W P mb b) (hc : DE X W P mc c)
    (hx : ∀ ta tb tc, PE X a ta → PE X b tb → PE X c tc → PE X (.Compare a [op, op'] [b, c] pos) (tChain (rD (fB f)) (rD (fB g)) ta tb tc)) : DE X W P (mChain f g ma mb mc) (.Compare a [op, op'] [b, c] pos) :=
  fun F hF => peImp (hx _ _ _ (ha F hF) (hb F hF) (hc F hF)) fun σ H Q ⟨C, ρ, R, h⟩ => by
    refine ⟨C, ρ, R, (poBind h).imp fun x H1 ⟨C1, ρ1, a, s1, R1, d1, h1⟩ => ⟨C1, ρ1, R1, (poBind h1).imp fun y H2 ⟨C2, ρ2, b, s2, R2, d2, h2⟩ => ?_⟩⟩
    cases e : f a b with
    | none =>
      simp only [e, Mi.opt, Mi.bind] at h2
      exact h2.elim
    | some k =>
      simp only [e, Mi.opt, Mi.bind] at h2
      refine ⟨C2, a, b, .bool k, by simp [fB, e], R2.ch, dpMono s2 d1, d2, fun v C3 H3 ex dv => ?_⟩
      cases dv
      have R3 := R2.grow ex
      refine ⟨k, rfl, ?_⟩
      cases k with
      | false =>
        simp only [Bool.false_eq_true, if_false] at h2
        exact iteF (h2 _ C3 H3 ex.cc R3 (.bl false))
      | true =>
        simp only [if_true] at h2
        refine iteT ⟨C3, ρ2, R3, (poBind (h2.mono ex.cc)).imp fun z H4 ⟨C4, ρ4, c, s4, R4, d4, h4⟩ => ?_⟩
        cases e2 : fB g b c with
        | none =>
          simp only [e2, Mi.opt] at h4
          exact h4.elim
        | some d =>
          simp only [e2, Mi.opt] at h4
          exact ⟨C4, b, c, d, e2, R4.ch, dpMono s4 (dpMono ex.cc d2), d4, fun v C' H' ex dv => h4 v C' H' ex.cc (R4.grow ex) dv⟩
/-! ### and, or, not -/
def mAnd (ma mb : Mi PyData) : Mi PyData := ma.bind fun a => (Mi.opt (truth a)).bind fun k => if k then mb else Mi.ret a
def mOr (ma mb : Mi PyData) : Mi PyData := ma.bind fun a => (Mi.opt (truth a)).bind fun k => if k then Mi.ret a else mb
def mNot (ma : Mi PyData) : Mi PyData := ma.bind fun a => (Mi.opt (truth a)).bind fun k => Mi.ret (.bool (!k))
theorem deOne {op} (h : DE X W P ma a) : DE X W P ma (.BoolOp op [a] pos) := fun F hF => pe_one (h F hF)
theorem deAnd (ha : DE X W P ma a) (hb : DE X W P mb (.BoolOp .And (b :: rest) pos)) : DE X W P (mAnd ma mb) (.BoolOp .And (a :: b :: rest) pos) :=
  fun F hF => peImp (pe_andT (ha F hF) (hb F hF)) fun σ H Q ⟨C, ρ, R, h⟩ => ⟨C, ρ, R, (poBind h).imp fun x H1 ⟨C1, ρ1, a, s1, R1, d1, h1⟩ => by
    cases e : truth a with
    | none =>
      simp only [e, Mi.opt, Mi.bind] at h1
      exact h1.elim
    | some k =>
      simp only [e, Mi.opt, Mi.bind] at h1
      refine ⟨k, truOk R1.ch d1 e, ?_⟩
      cases k with
      | false =>
        simp only [Bool.false_eq_true, if_false] at h1
        exact iteF (poRet h1 R1 d1)
      | true =>
        simp only [if_true] at h1
        exact iteT ⟨C1, ρ1, R1, h1⟩⟩
theorem deOr (ha : DE X W P ma a) (hb : DE X W P mb (.BoolOp .Or (b :: rest) pos)) : DE X W P (mOr ma mb) (.BoolOp .Or (a :: b :: rest) pos) :=
  fun F hF => peImp (pe_orT (ha F hF) (hb F hF)) fun σ H Q ⟨C, ρ, R, h⟩ => ⟨C, ρ, R, (poBind h).imp fun x H1 ⟨C1, ρ1, a, s1, R1, d1, h1⟩ => by
    cases e : truth a with
    | none =>
      simp only [e, Mi.opt, Mi.bind] at h1
      exact h1.elim
    | some k =>
      simp only [e, Mi.opt, Mi.bind] at h1
      refine ⟨k, truOk R1.ch d1 e, ?_⟩
      cases k with
      | false =>
        simp only [Bool.false_eq_true, if_false] at h1
        exact iteF ⟨C1, ρ1, R1, h1⟩
      | true =>
        simp only [if_true] at h1
        exact iteT (poRet h1 R1 d1)⟩
theorem deNot (ha : DE X W P ma a) : DE X W P (mNot ma) (.UnaryOp .Not a pos) :=
  fun F hF => peImp (pe_notT (ha F hF)) fun σ H Q ⟨C, ρ, R, h⟩ => ⟨C, ρ, R, (poBind h).imp fun x H1 ⟨C1, ρ1, a, s1, R1, d1, h1⟩ => by
    cases e : truth a with
    | none =>
      simp only [e, Mi.opt, Mi.bind] at h1
      exact h1.elim
    | some k =>
      simp only [e, Mi.opt, Mi.bind] at h1
      exact ⟨k, truOk R1.ch d1 e, poRet h1 R1 (.bl _)⟩⟩
def tAndM (ma mb : Mi Bool) : Mi Bool := ma.bind fun k => if k then mb else Mi.ret false
def tOrM (ma mb : Mi Bool) : Mi Bool := ma.bind fun k => if k then Mi.ret true else mb
def tNotM (ma : Mi Bool) : Mi Bool := ma.bind fun k => Mi.ret (!k)
def DW (X : Cx) (W : WX) (P : Pn) (m : Mi Bool) (e : Expr) : Prop := ∀ F : Fr0, FOk F P → PW X e (tM X F W RelB m)
theorem pwImp {X : Cx} {e : Expr} {t t' : TT} (h : PW X e t) (i : ∀ (σ : L2.St) H Q, t' σ H Q → t σ H Q) : PW X e t' := ⟨fun wh pins s σ H Q I w => h.run wh pins s σ H Q I (i σ H Q w)⟩
theorem dtW {m : Mi Bool} (h : DW X W P m e) : DT X W P m e := fun F hF => (h F hF).pt
section
variable {ka kb : Mi Bool}
theorem dwAnd1 (ha : DT X W P ka a) : DW X W P ka (.BoolOp .And [a] pos) := fun F hF => pw_and1 (ha F hF)
theorem dwOr1 (ha : DT X W P ka a) : DW X W P ka (.BoolOp .Or [a] pos) := fun F hF => pw_or1 (ha F hF)
theorem dwAnd (ha : DT X W P ka a) (hb : DW X W P kb (.BoolOp .And (b :: rest) pos)) : DW X W P (tAndM ka kb) (.BoolOp .And (a :: b :: rest) pos) :=
  fun F hF => pwImp (pw_and (ha F hF) (hb F hF)) fun σ H Q ⟨C, ρ, R, h⟩ => ⟨C, ρ, R, (poBind h).imp fun x H1 ⟨C1, ρ1, a, s1, R1, d1, h1⟩ => by
    have d1' : x = a := d1
    subst d1'
    cases x with
    | false =>
      simp only [Bool.false_eq_true, if_false] at h1
      exact iteF (poRet h1 R1 rfl)
    | true =>
      simp only [if_true] at h1
      exact iteT ⟨C1, ρ1, R1, h1⟩⟩
theorem dwOr (ha : DT X W P ka a) (hb : DW X W P kb (.BoolOp .Or (b :: rest) pos)) : DW X W P (tOrM ka kb) (.BoolOp .Or (a :: b :: rest) pos) :=
  fun F hF => pwImp (pw_or (ha F hF) (hb F hF)) fun σ H Q ⟨C, ρ, R, h⟩ => ⟨C, ρ, R, (poBind h).imp fun x H1 ⟨C1, ρ1, a, s1, R1, d1, h1⟩ => by
    have d1' : x = a := d1
    subst d1'
    cases x with
    | false =>
      simp only [Bool.false_eq_true, if_false] at h1
      exact iteF ⟨C1, ρ1, R1, h1⟩
    | true =>
      simp only [if_true] at h1
      exact iteT (poRet h1 R1 rfl)⟩
theorem dtNot (ha : DT X W P ka a) : DT X W P (tNotM ka) (.UnaryOp .Not a pos) :=
  fun F hF => ptImp (pt_not (ha F hF)) fun σ H Q ⟨C, ρ, R, h⟩ => ⟨C, ρ, R, (poBind h).imp fun x H1 ⟨C1, ρ1, a, s1, R1, d1, h1⟩ => by
    have d1' : x = a := d1
    subst d1'
    exact poRet h1 R1 rfl⟩
/-- a if t else b -/
def mIf (t : Mi Bool) (ma mb : Mi PyData) : Mi PyData := t.bind fun k => if k then ma else mb
theorem deIf (ht : DT X W P ka c) (ha : DE X W P ma a) (hb : DE X W P mb b) : DE X W P (mIf ka ma mb) (.IfExp c a b pos) :=
  fun F hF => peImp (pe_ifExp (ht F hF) (ha F hF) (hb F hF)) fun σ H Q ⟨C, ρ, R, h⟩ => ⟨C, ρ, R, (poBind h).imp fun x H1 ⟨C1, ρ1, a, s1, R1, d1, h1⟩ => by
    have d1' : x = a := d1
    subst d1'
    cases x with
    | false =>
      simp only [Bool.false_eq_true, if_false] at h1
      exact iteF ⟨C1, ρ1, R1, h1⟩
    | true =>
      simp only [if_true] at h1
      exact iteT ⟨C1, ρ1, R1, h1⟩⟩
end
/-! ### is None -/
def isNone : PyData → Bool
  | .none => true
  | _ => false
theorem isNoneOk {K : PySem.W.Frag} {C : Hp} {x : V} {d : PyData} (h : Dp K C x d) : decide (x = V.non) = isNone d := by
  cases h <;> first | rfl | (exact decide_eq_false (fun z => nomatch z))
def mIsN (ma : Mi PyData) : Mi PyData := ma.bind fun a => Mi.ret (.bool (isNone a))
def mNotN (ma : Mi PyData) : Mi PyData := ma.bind fun a => Mi.ret (.bool (!isNone a))
theorem deIsN {j p2} (ha : DE X W P ma a) : DE X W P (mIsN ma) (.Compare a [.Is] [.Constant .none j p2] pos) :=
  fun F hF => peImp (pe_cmp (pc_isN (ha F hF)) rfl) fun σ H Q ⟨C, ρ, R, h⟩ => ⟨C, ρ, R, (poBind h).imp fun x H1 ⟨C1, ρ1, a, s1, R1, d1, h1⟩ => by
    rw [isNoneOk d1]
    exact poRet h1 R1 (.bl _)⟩
theorem deNotN {j p2} (ha : DE X W P ma a) : DE X W P (mNotN ma) (.Compare a [.IsNot] [.Constant .none j p2] pos) :=
  fun F hF => peImp (pe_cmp (pc_notN (ha F hF)) rfl) fun σ H Q ⟨C, ρ, R, h⟩ => ⟨C, ρ, R, (poBind h).imp fun x H1 ⟨C1, ρ1, a, s1, R1, d1, h1⟩ => by
    rw [isNoneOk d1]
    exact poRet h1 R1 (.bl _)⟩
def tIsNM (ma : Mi PyData) : Mi Bool := ma.bind fun a => Mi.ret (isNone a)
def tNotNM (ma : Mi PyData) : Mi Bool := ma.bind fun a => Mi.ret (!isNone a)
theorem dtIsN {j p2} (ha : DE X W P ma a) : DT X W P (tIsNM ma) (.Compare a [.Is] [.Constant .none j p2] pos) :=
  fun F hF => ptImp (pt_cmp (pc_isN (ha F hF)) rfl) fun σ H Q ⟨C, ρ, R, h⟩ => ⟨C, ρ, R, (poBind h).imp fun x H1 ⟨C1, ρ1, a, s1, R1, d1, h1⟩ => by
    rw [isNoneOk d1]
    exact ⟨_, rfl, poRet h1 R1 rfl⟩⟩
theorem dtNotN {j p2} (ha : DE X W P ma a) : DT X W P (tNotNM ma) (.Compare a [.IsNot] [.Constant .none j p2] pos) :=
  fun F hF => ptImp (pt_cmp (pc_notN (ha F hF)) rfl) fun σ H Q ⟨C, ρ, R, h⟩ => ⟨C, ρ, R, (poBind h).imp fun x H1 ⟨C1, ρ1, a, s1, R1, d1, h1⟩ => by
    rw [isNoneOk d1]
    exact ⟨_, rfl, poRet h1 R1 rfl⟩⟩
/-! ### rows of expressions, displays, calls of what is built in -/
def mNil : Mi (List PyData) := Mi.ret []
def mCons (m : Mi PyData) (ms : Mi (List PyData)) : Mi (List PyData) := m.bind fun d => ms.bind fun ds => Mi.ret (d :: ds)
theorem daNil : DA X W P mNil [] := fun F _ => paImp pa_nil fun σ H Q ⟨C, ρ, R, h⟩ => poRet h R ⟨.nil, rfl⟩
theorem daCons {ms : Mi (List PyData)} (ha : DE X W P ma a) (hr : DA X W P ms es) (hs : starEach (a :: es) X.env = (false, eval a X.env) :: starEach es X.env := by rfl) : DA X W P (mCons ma ms) (a :: es) :=
  fun F hF => paImp (pa_cons (ha F hF) (hr F hF) hs) fun σ H Q ⟨C, ρ, R, h⟩ => by
    refine ⟨C, ρ, R, (poBind h).imp fun x H1 ⟨C1, ρ1, d, s1, R1, d1, h1⟩ => ⟨C1, ρ1, R1, (poBind h1).imp fun xs H2 ⟨C2, ρ2, ds, s2, R2, d2, h2⟩ => ?_⟩⟩
    exact poRet h2 R2 ⟨.cons (dpMono s2 d1) d2.1, congrArg (· + 1) d2.2⟩
def mTup (ms : Mi (List PyData)) : Mi PyData := ms.bind fun ds => Mi.ret (.tuple ds)
def mLst (ms : Mi (List PyData)) : Mi PyData := ms.bind fun ds => Mi.ret (.list ds)
theorem line1000 {n : Nat} (h : n ≤ 1000) : n ≤ sizeLine := Nat.le_of_lt (small1000 h)
theorem deTup {x1} {ms : Mi (List PyData)} (h : DA X W P ms es) (hl : es.length ≤ 1000 := by decide) : DE X W P (mTup ms) (.Tuple es x1 pos) :=
  fun F hF => peImp (pe_tup (h F hF)) fun σ H Q ⟨C, ρ, R, p⟩ => ⟨C, ρ, R, (poBind p).imp fun xs H1 ⟨C1, ρ1, ds, s1, R1, d1, h1⟩ => by
    refine ⟨line1000 (by rw [dpaLen d1.1, d1.2]; exact hl), fun q hq => ?_⟩
    have ex : Ext C1 H1 (upd C1 q (.tup xs)) (upd H1 q (.tup xs)) := Ext.new R1.ch hq
    exact h1 _ _ _ ex.cc (R1.grow ex) (.tup (.inl (.inl upd_same)) (dpaMono ex.cc d1.1))⟩
theorem deLst {ms : Mi (List PyData)} (h : DA X W P ms es) (hl : es.length ≤ 1000 := by decide) : DE X W P (mLst ms) (.List es pos) :=
  fun F hF => peImp (pe_lst (h F hF)) fun σ H Q ⟨C, ρ, R, p⟩ => ⟨C, ρ, R, (poBind p).imp fun xs H1 ⟨C1, ρ1, ds, s1, R1, d1, h1⟩ => by
    refine ⟨line1000 (by rw [dpaLen d1.1, d1.2]; exact hl), fun q hq => ?_⟩
    have ex : Ext C1 H1 (upd C1 q (.lst xs)) (upd H1 q (.lst xs)) := Ext.new R1.ch hq
    exact h1 _ _ _ ex.cc (R1.grow ex) (.lst (.inl (.inl upd_same)) (dpaMono ex.cc d1.1))⟩
/-- a built-in function or class of data -/
def rDs (f : List PyData → Option PyData) : List V → Hp → VK → Prop := fun vs H Q => ∃ C ds d, f ds = some d ∧ Same C H ∧ DpAll KD C vs ds ∧ ∀ v C' H', Ext C H C' H' → Dp KD C' v d → Q v H'
def mBlt (f : List PyData → Option PyData) (ms : Mi (List PyData)) : Mi PyData := ms.bind fun ds => Mi.opt (f ds)
theorem deB {f : List PyData → Option PyData} {ms : Mi (List PyData)} {id : String} {x : Str} {p : Pos} (hc : CallR X (.builtin id) (rDs f)) (ha : DA X W P ms (e :: es)) (hg : Gl X x) (hm : X.mg x = none) (hv : bootBuiltins x = some (.builtin id))
    (hn : x ≠ "__name__" := by decide) (hdb : (x == ("__debug__" : Str)) = false := by decide)
    (he : starEach (e :: es) X.env = (false, eval e X.env) :: starEach es X.env := by rfl) (hpl : (backTo pos (starEach es X.env)).any (·.1) = false := by rfl) : DE X W P (mBlt f ms) (.Call (.Name x p) (e :: es) [] pos) :=
  fun F hF => peImp (pe_callB hc hg hm hv (ha F hF) hn hdb he hpl) fun σ H Q ⟨C, ρ, R, h⟩ => ⟨C, ρ, R, (poBind h).imp fun xs H1 ⟨C1, ρ1, ds, s1, R1, d1, h1⟩ => by
    cases e : f ds with
    | none =>
      simp only [e, Mi.opt] at h1
      exact h1.elim
    | some d =>
      simp only [e, Mi.opt] at h1
      exact ⟨C1, ds, d, e, R1.ch, d1.1, fun v C' H' ex dv => h1 v C' H' ex.cc (R1.grow ex) dv⟩⟩
theorem deTy {f : List PyData → Option PyData} {ms : Mi (List PyData)} {T : String} {x : Str} {p : Pos} (hc : CallR X (.type T) (rDs f)) (ha : DA X W P ms (e :: es)) (hg : Gl X x) (hm : X.mg x = none) (hv : bootBuiltins x = some (.type T))
    (hn : x ≠ "__name__" := by decide) (hdb : (x == ("__debug__" : Str)) = false := by decide)
    (he : starEach (e :: es) X.env = (false, eval e X.env) :: starEach es X.env := by rfl) (hpl : (backTo pos (starEach es X.env)).any (·.1) = false := by rfl) : DE X W P (mBlt f ms) (.Call (.Name x p) (e :: es) [] pos) :=
  fun F hF => peImp (pe_callTy hc hg hm hv (ha F hF) hn hdb he hpl) fun σ H Q ⟨C, ρ, R, h⟩ => ⟨C, ρ, R, (poBind h).imp fun xs H1 ⟨C1, ρ1, ds, s1, R1, d1, h1⟩ => by
    cases e : f ds with
    | none =>
      simp only [e, Mi.opt] at h1
      exact h1.elim
    | some d =>
      simp only [e, Mi.opt] at h1
      exact ⟨C1, ds, d, e, R1.ch, d1.1, fun v C' H' ex dv => h1 v C' H' ex.cc (R1.grow ex) dv⟩⟩
end
end Dn
set_option maxHeartbeats 4000000
namespace Dn
open PySem PySem.Spec L2

/-! ## statements -/
def RvOk (H0 C H : Hp) (v : V) : Rv → Prop
  | .cold d => Dp KD C v d
  | .fresh ds => ∃ p ws, v = .ref p ∧ C p = none ∧ H p = some (.lst ws) ∧ DpAll KD C ws ds ∧ H0 p = none
def PoS (X : Cx) (F : Fr0) (W : WX) (C : Hp) (D : Ends) : Fl → Prop
  | .nx r => ∀ σ' C' H', Same C C' → RE KD F C' σ' H' r → D.nx σ' H'
  | .bk r => ∀ σ' C' H', Same C C' → RE KD F C' σ' H' r → D.bk σ' H'
  | .ct r => ∀ σ' C' H', Same C C' → RE KD F C' σ' H' r → D.ct σ' H'
  | .rt d r => ∀ v σ' C' H', Same C C' → RE KD F C' σ' H' r → RvOk F.H0 C' H' v d → D.rt v H'
  | .ex c w r => ∀ σ', XP X F W C σ' c w r
  | .bad => False
def tS (X : Cx) (F : Fr0) (W : WX) (s : Rho → Fl) : TS := fun D σ H => ∃ C ρ, RE KD F C σ H ρ ∧ PoS X F W C D (s ρ)
def DS (X : Cx) (W : WX) (P : Pn) (s : Rho → Fl) (st : Stmt) : Prop := ∀ F : Fr0, FOk F P → PS X st (tS X F W s)
def DSs (X : Cx) (W : WX) (P : Pn) (s : Rho → Fl) (sts : List Stmt) : Prop := ∀ F : Fr0, FOk F P → PSs X sts (tS X F W s)
def sSeq (s u : Rho → Fl) : Rho → Fl := fun r => match s r with
  | .nx r' => u r'
  | .rt d r' => .rt d r'
  | .bk r' => .bk r'
  | .ct r' => .ct r'
  | .ex c w r' => .ex c w r'
  | .bad => .bad
def sBind {α : Type} (m : Mi α) (k : α → Rho → Fl) : Rho → Fl := fun r => match m r with
  | .ok a r' => k a r'
  | .ex c w r' => .ex c w r'
  | .bad => .bad
section
variable {X : Cx} {F : Fr0} {W : WX} {C C' : Hp} {σ : L2.St} {D D' : Ends}
theorem PoS.mono {o : Fl} (h : PoS X F W C D o) (s : Same C C') : PoS X F W C' D o := by
  cases o with
  | nx r => exact fun σ' C2 H' h1 => h σ' C2 H' (s.trans h1)
  | bk r => exact fun σ' C2 H' h1 => h σ' C2 H' (s.trans h1)
  | ct r => exact fun σ' C2 H' h1 => h σ' C2 H' (s.trans h1)
  | rt d r => exact fun v σ' C2 H' h1 => h v σ' C2 H' (s.trans h1)
  | ex c w r => exact fun σ' => XP.mono (h σ') s
  | bad => exact h
theorem posBind {α β : Type} {Rel1 : L2.St → Hp → β → α → Prop} {m : Mi α} {k : α → Rho → Fl} {ρ : Rho} (h : PoS X F W C D (sBind m k ρ)) :
    Po X F W Rel1 C σ (fun b H1 => ∃ C1 ρ1 a, Same C C1 ∧ RE KD F C1 σ H1 ρ1 ∧ Rel1 σ C1 b a ∧ PoS X F W C1 D (k a ρ1)) (m ρ) := by
  unfold sBind at h
  cases e : m ρ with
  | ok a r =>
    rw [e] at h
    exact fun b C1 H1 s R d => ⟨C1, r, a, s, R, d, h.mono s⟩
  | ex c w r =>
    rw [e] at h
    exact h σ
  | bad =>
    rw [e] at h
    exact h
end
theorem psImp {X : Cx} {st : Stmt} {t t' : TS} (h : PS X st t) (i : ∀ D (σ : L2.St) H, t' D σ H → t D σ H) : PS X st t' := ⟨fun pins s σ H D I w => h.run pins s σ H D I (i D σ H w)⟩
theorem pssImp {X : Cx} {st : List Stmt} {t t' : TS} (h : PSs X st t) (i : ∀ D (σ : L2.St) H, t' D σ H → t D σ H) : PSs X st t' := ⟨fun pins s σ H D I w => h.run pins s σ H D I (i D σ H w)⟩
theorem pgImp {X : Cx} {tg : Expr} {t t' : TG} (h : PG X tg t) (i : ∀ v (σ : L2.St) H Q, t' v σ H Q → t v σ H Q) : PG X tg t' := ⟨fun pins s σ H v u Q I r w => h.run pins s σ H v u Q I r (i v σ H Q w)⟩
theorem pgsImp {X : Cx} {tg : List Expr} {t t' : TGs} (h : PGs X tg t) (i : ∀ v (σ : L2.St) H Q, t' v σ H Q → t v σ H Q) : PGs X tg t' := ⟨fun pins s σ H v u Q I r w => h.run pins s σ H v u Q I r (i v σ H Q w)⟩
theorem piImp {X : Cx} {tg it : Expr} {t t' : TI} (h : PI X tg it t) (i : ∀ (σ : L2.St) H R, t' σ H R → t σ H R) : PI X tg it t' := ⟨fun pins s σ H R I w => h.run pins s σ H R I (i σ H R w)⟩

section
variable {X : Cx} {W : WX} {P : Pn} {a b c e : Expr} {es : List Expr} {ma mb mc : Mi PyData} {pos : Pos} {st : Stmt} {sts sts2 : List Stmt} {s u : Rho → Fl}
theorem dsNil : DSs X W P (fun r => .nx r) [] := fun F _ => pssImp pss_nil fun D σ H ⟨C, ρ, R, h⟩ => h σ C H (Same.refl _) R
theorem dsOne (h : DS X W P s st) : DSs X W P s [st] := fun F hF => pss_one (h F hF)
theorem dsCons (h : DS X W P s st) (g : DSs X W P u sts) : DSs X W P (sSeq s u) (st :: sts) := fun F hF => pssImp (pss_cons (h F hF) (g F hF)) fun D σ H ⟨C, ρ, R, p⟩ => by
  refine ⟨C, ρ, R, ?_⟩
  unfold sSeq at p
  cases e : s ρ with
  | nx r =>
    rw [e] at p
    exact fun σ' C' H' h1 R' => ⟨C', r, R', p.mono h1⟩
  | bk r =>
    rw [e] at p
    exact p
  | ct r =>
    rw [e] at p
    exact p
  | rt d r =>
    rw [e] at p
    exact p
  | ex c w r =>
    rw [e] at p
    exact p
  | bad =>
    rw [e] at p
    exact p
theorem dsPass : DS X W P (fun r => .nx r) (.Pass pos) := fun F _ => psImp ps_pass fun D σ H ⟨C, ρ, R, h⟩ => h σ C H (Same.refl _) R
theorem dsBreak : DS X W P (fun r => .bk r) (.Break pos) := fun F _ => psImp ps_break fun D σ H ⟨C, ρ, R, h⟩ => h σ C H (Same.refl _) R
theorem dsCont : DS X W P (fun r => .ct r) (.Continue pos) := fun F _ => psImp ps_continue fun D σ H ⟨C, ρ, R, h⟩ => h σ C H (Same.refl _) R
def sExpr (m : Mi PyData) : Rho → Fl := sBind m fun _ r => .nx r
theorem dsExpr (h : DE X W P ma e) (hs : swapsWith e none pos.line X.env = pure false := by rfl) : DS X W P (sExpr ma) (.Expr e pos) :=
  fun F hF => psImp (ps_expr (h F hF) hs) fun D σ H ⟨C, ρ, R, p⟩ => ⟨C, ρ, R, (posBind p).imp fun x H1 ⟨C1, ρ1, d, s1, R1, d1, h1⟩ => h1 σ C1 H1 (Same.refl _) R1⟩
def sRet (m : Mi PyData) : Rho → Fl := sBind m fun d r => .rt (.cold d) r
theorem dsRet (h : DE X W P ma e) : DS X W P (sRet ma) (.Return (some e) pos) :=
  fun F hF => psImp (ps_ret (h F hF)) fun D σ H ⟨C, ρ, R, p⟩ => ⟨C, ρ, R, (posBind p).imp fun x H1 ⟨C1, ρ1, d, s1, R1, d1, h1⟩ => h1 x σ C1 H1 (Same.refl _) R1 d1⟩
theorem dsRetN : DS X W P (fun r => .rt (.cold .none) r) (.Return none pos) := fun F _ => psImp ps_retN fun D σ H ⟨C, ρ, R, h⟩ => h .non σ C H (Same.refl _) R .non
def sIf (t : Mi Bool) (s u : Rho → Fl) : Rho → Fl := sBind t fun k r => if k then s r else u r
theorem dsIf {k : Mi Bool} (h : DT X W P k c) (hs : DSs X W P s sts) (hu : DSs X W P u sts2) : DS X W P (sIf k s u) (.If c sts sts2 pos) :=
  fun F hF => psImp (ps_if (h F hF) (hs F hF) (hu F hF)) fun D σ H ⟨C, ρ, R, p⟩ => ⟨C, ρ, R, (posBind p).imp fun x H1 ⟨C1, ρ1, d, s1, R1, d1, h1⟩ => by
    have d1' : x = d := d1
    subst d1'
    cases x with
    | false =>
      simp only [Bool.false_eq_true, if_false] at h1
      exact iteF ⟨C1, ρ1, R1, h1⟩
    | true =>
      simp only [if_true] at h1
      exact iteT ⟨C1, ρ1, R1, h1⟩⟩
def sSet (i : Nat) (m : Mi PyData) : Rho → Fl := sBind m fun d r => .nx (r.set i (some (.val d)))
theorem dsSet {i : Nat} {x : Str} {pos' : Pos} (h : DE X W P ma e) (hi : i ∉ P.ps) (hp : ∀ te, PE X e te → PS X (.Assign [.Name x pos'] e pos) (tAsg te (gName i))) : DS X W P (sSet i ma) (.Assign [.Name x pos'] e pos) :=
  fun F hF => psImp (hp _ (h F hF)) fun D σ H ⟨C, ρ, R, p⟩ => ⟨C, ρ, R, (posBind p).imp fun x H1 ⟨C1, ρ1, d, s1, R1, d1, h1⟩ => h1 _ C1 H1 (Same.refl _) (R1.setVal (notPin hF hi) d1)⟩

/-! ### lists that are new -/
def PoF (X : Cx) (F : Fr0) (W : WX) (C : Hp) (σ : L2.St) (Q : VK) : Out (List PyData) → Prop
  | .ok ds r => ∀ p ws C' H', Same C C' → RE KD F C' σ H' r → C' p = none → H' p = some (.lst ws) → DpAll KD C' ws ds → (∀ (j : Nat) (zs : List PyData), r[j]? = some (some (.hot zs)) → σ[j]? ≠ some (some (.ref p))) → F.H0 p = none → (∀ q ∈ F.gd, q.1 ≠ p) → Q (.ref p) H'
  | .ex c w r => XP X F W C σ c w r
  | .bad => False
def tF (X : Cx) (F : Fr0) (W : WX) (m : Mi (List PyData)) : TE := fun σ H Q => ∃ C ρ, RE KD F C σ H ρ ∧ PoF X F W C σ Q (m ρ)
def DF (X : Cx) (W : WX) (P : Pn) (m : Mi (List PyData)) (e : Expr) : Prop := ∀ F : Fr0, FOk F P → PE X e (tF X F W m)
end
/-- a new list grows cold -/
theorem RE.cool {K : PySem.W.Frag} {F : Fr0} {C H : Hp} {σ : L2.St} {ρ : Rho} {p : Addr} {ws : List V} (R : RE K F C σ H ρ) (hn : C p = none) (hh : H p = some (.lst ws))
    (hx : ∀ (j : Nat) (zs : List PyData), ρ[j]? = some (some (.hot zs)) → σ[j]? ≠ some (some (.ref p))) (h0 : F.H0 p = none) (hg : ∀ q ∈ F.gd, q.1 ≠ p) : RE K F (upd C p (.lst ws)) σ H ρ := by
  have s1 : Same C (upd C p (.lst ws)) := sameUpd hn
  refine ⟨R.c0.trans s1, fun b o q => ?_, fun b o q1 q2 => ?_, fun j e hj => ?_, R.inj, R.own, R.pin, R.len, fun g hg' => ?_, R.tabs, ntUpd R.tabC, R.raw, R.bb.trans s1⟩
  · by_cases hb : b = p
    · subst hb
      rw [upd_same] at q
      cases q
      exact hh
    · rw [upd_ne hb] at q
      exact R.ch _ _ q
  · obtain ⟨e1, e2, e3⟩ := R.fr b o q1 q2
    refine ⟨?_, e2, e3⟩
    rw [upd_ne (fun z => by subst z; rw [h0] at q1; cases q1)]
    exact e1
  · obtain ⟨v, e1, e2⟩ := R.sl j e hj
    refine ⟨v, e1, ?_⟩
    cases e with
    | val d => exact dpMono s1 e2
    | hot zs =>
      obtain ⟨b, us, rfl, g1, g2, g3⟩ := e2
      have hb : b ≠ p := fun y => by
        subst y
        exact hx j zs hj e1
      exact ⟨b, us, rfl, by rw [upd_ne hb]; exact g1, g2, dpaMono s1 g3⟩
  · obtain ⟨e1, e2⟩ := R.gds g hg'
    refine ⟨?_, e2⟩
    rw [upd_ne (hg g hg')]
    exact e1
theorem RE.gdNe {K : PySem.W.Frag} {F : Fr0} {C H : Hp} {σ : L2.St} {ρ : Rho} {p : Addr} (R : RE K F C σ H ρ) (hn : H p = none) : ∀ q ∈ F.gd, q.1 ≠ p := fun q hq e => by
  obtain ⟨_, e2, _⟩ := R.gds q hq
  rw [e, hn] at e2
  cases e2
theorem RE.hotNe {K : PySem.W.Frag} {F : Fr0} {C H : Hp} {σ : L2.St} {ρ : Rho} {p : Addr} (R : RE K F C σ H ρ) (hn : H p = none) : ∀ (j : Nat) (zs : List PyData), ρ[j]? = some (some (.hot zs)) → σ[j]? ≠ some (some (.ref p)) := fun j zs h e => by
  obtain ⟨a, vs, e1, _, h2, _⟩ := R.hotAt h
  rw [e] at e1
  cases e1
  rw [hn] at h2
  cases h2
theorem RE.h0None {K : PySem.W.Frag} {F : Fr0} {C H : Hp} {σ : L2.St} {ρ : Rho} {p : Addr} (R : RE K F C σ H ρ) (hn : H p = none) : F.H0 p = none := by
  cases e : F.H0 p with
  | none => rfl
  | some o =>
    cases e2 : F.C0 p with
    | none =>
      obtain ⟨_, ⟨o', h⟩, _⟩ := R.fr p o e e2
      rw [hn] at h
      cases h
    | some o2 =>
      have z := R.ch _ _ (R.c0 _ _ e2)
      rw [hn] at z
      cases z
section
variable {X : Cx} {W : WX} {P : Pn} {a b c e : Expr} {es : List Expr} {ma mb mc : Mi PyData} {pos : Pos} {st : Stmt} {sts sts2 : List Stmt} {s u : Rho → Fl}
def mOfF (m : Mi (List PyData)) : Mi PyData := m.bind fun ds => Mi.ret (.list ds)
theorem deOfF {m : Mi (List PyData)} (h : DF X W P m e) : DE X W P (mOfF m) e := fun F hF => peImp (h F hF) fun σ H Q ⟨C, ρ, R, p⟩ => by
  refine ⟨C, ρ, R, ?_⟩
  unfold mOfF Mi.bind at p
  cases e : m ρ with
  | ok ds r =>
    simp only [e, Mi.ret] at p
    intro q ws C' H' s1 R1 hn hh hd hx h0 hg
    exact p _ _ H' (s1.trans (sameUpd hn)) (R1.cool hn hh hx h0 hg) (.lst (.inl (.inl upd_same)) (dpaMono (sameUpd hn) hd))
  | ex c w r =>
    rw [e] at p
    exact p
  | bad =>
    rw [e] at p
    exact p
theorem dfLst {ms : Mi (List PyData)} (h : DA X W P ms es) (hl : es.length ≤ 1000 := by decide) : DF X W P ms (.List es pos) :=
  fun F hF => peImp (pe_lst (h F hF)) fun σ H Q ⟨C, ρ, R, p⟩ => ⟨C, ρ, R, by
    cases e : ms ρ with
    | ok ds r =>
      rw [e] at p
      intro xs C1 H1 s1 R1 d1
      refine ⟨line1000 (by rw [dpaLen d1.1, d1.2]; exact hl), fun q hq => ?_⟩
      have hx : Same H1 (upd H1 q (.lst xs)) := sameUpd hq
      have R2 : RE KD F C1 σ (upd H1 q (.lst xs)) r := R1.grow ⟨Same.refl _, R1.ch.trans hx, hx, fun _ _ _ z => z, fun _ _ h => h⟩
      exact p q xs C1 _ s1 R2 (R1.ch.free hq) upd_same d1.1 (R1.hotNe hq) (R1.h0None hq) (R1.gdNe hq)
    | ex c w r =>
      rw [e] at p
      exact p
    | bad =>
      rw [e] at p
      exact p⟩
def sSetHot (i : Nat) (m : Mi (List PyData)) : Rho → Fl := sBind m fun ds r => .nx (r.set i (some (.hot ds)))
theorem dsSetHot {i : Nat} {x : Str} {pos' : Pos} {m : Mi (List PyData)} (h : DF X W P m e) (hi : i ∉ P.ps) (hp : ∀ te, PE X e te → PS X (.Assign [.Name x pos'] e pos) (tAsg te (gName i))) : DS X W P (sSetHot i m) (.Assign [.Name x pos'] e pos) :=
  fun F hF => psImp (hp _ (h F hF)) fun D σ H ⟨C, ρ, R, p⟩ => ⟨C, ρ, R, by
    unfold sSetHot sBind at p
    cases e : m ρ with
    | ok ds r =>
      rw [e] at p
      exact fun q ws C' H' s1 R1 hn hh hd hx h0 hg => p _ C' H' s1 (R1.setHot (notPin hF hi) hn hh hd hx h0 hg)
    | ex c w r =>
      rw [e] at p
      exact p σ
    | bad =>
      rw [e] at p
      exact p⟩
/-- return [..] -/
def sRetF (m : Mi (List PyData)) : Rho → Fl := sBind m fun ds r => .rt (.fresh ds) r
theorem dsRetF {m : Mi (List PyData)} (h : DF X W P m e) : DS X W P (sRetF m) (.Return (some e) pos) :=
  fun F hF => psImp (ps_ret (h F hF)) fun D σ H ⟨C, ρ, R, p⟩ => ⟨C, ρ, R, by
    unfold sRetF sBind at p
    cases e : m ρ with
    | ok ds r =>
      rw [e] at p
      exact fun q ws C' H' s1 R1 hn hh hd hx h0 hg => p _ σ C' H' s1 R1 ⟨q, ws, rfl, hn, hh, hd, h0⟩
    | ex c w r =>
      rw [e] at p
      exact p σ
    | bad =>
      rw [e] at p
      exact p⟩
theorem getSt {K : PySem.W.Frag} {F : Fr0} {C H : Hp} {σ : L2.St} {ρ : Rho} (R : RE K F C σ H ρ) {i : Nat} {xs : List PyData} (h : ρ[i]? = some (some (.hot xs))) : ∃ a, σ[i]? = some (some (.ref a)) := by
  obtain ⟨a, _, e, _⟩ := R.hotAt h
  exact ⟨a, e⟩
/-- xs.append(e), xs a slot's hot list -/
def hotOf (r : Rho) (i : Nat) : Option (List PyData) := match r[i]? with
  | some (some (.hot xs)) => some xs
  | _ => none
theorem hotOf_eq {r : Rho} {i : Nat} {xs : List PyData} (h : hotOf r i = some xs) : r[i]? = some (some (.hot xs)) := by
  unfold hotOf at h
  split at h
  · rename_i e
    cases h
    exact e
  · cases h
def sApp (i : Nat) (m : Mi PyData) : Rho → Fl := fun r => match hotOf r i with
  | some _ => sBind m (fun d r' => match hotOf r' i with
    | some xs => if xs.length < 16777216 then .nx (r'.set i (some (.hot (xs ++ [d])))) else .bad
    | none => .bad) r
  | none => .bad
theorem dsApp {i : Nat} {x : Str} {p1 p2 p3 : Pos} (h : DE X W P ma e)
    (hm : ∀ (t : TA), PA X [e] t → PE X (.Call (.Attribute (.Name x p1) "append" p2) [e] [] p3) (tBM X.K "list" rAppend (tVar i) t)) (hs : swapsWith (.Call (.Attribute (.Name x p1) "append" p2) [e] [] p3) none pos.line X.env = pure false := by rfl)
    (he : starEach [e] X.env = (false, eval e X.env) :: starEach [] X.env := by rfl) : DS X W P (sApp i ma) (.Expr (.Call (.Attribute (.Name x p1) "append" p2) [e] [] p3) pos) :=
  fun F hF => psImp (ps_expr (hm _ (daCons h daNil he F hF)) hs) fun D σ H ⟨C, ρ, R, p⟩ => by
    unfold sApp at p
    cases e1 : hotOf ρ i with
    | none =>
      rw [e1] at p
      exact p.elim
    | some xs0 =>
      rw [e1] at p
      obtain ⟨a, vs, ea, g1, g2, g3⟩ := R.hotAt (hotOf_eq e1)
      refine ⟨.ref a, ea, .inl ⟨rfl, vs, SqL.of g2⟩, C, ρ, R, ?_⟩
      have q := posBind (Rel1 := RelD X) (σ := σ) p
      unfold mCons Mi.bind
      cases e2 : ma ρ with
      | ex c w r =>
        rw [e2] at q
        exact q
      | bad =>
        rw [e2] at q
        exact q
      | ok d r =>
        rw [e2] at q
        intro ws C1 H1 s1 R1 dd
        obtain ⟨dd, _⟩ := dd
        cases dd with
        | cons dv dn =>
          cases dn
          rename_i v
          obtain ⟨C2, r2, d2, s2, R2, dd2, q2⟩ := q v C1 H1 s1 R1 dv
          cases e3 : hotOf r2 i with
          | none =>
            rw [e3] at q2
            exact q2.elim
          | some xs =>
            rw [e3] at q2
            by_cases hl : xs.length < 16777216
            · simp only [if_pos hl] at q2
              obtain ⟨a', vs', ea', h1, h2, h3⟩ := R2.hotAt (hotOf_eq e3)
              rw [ea] at ea'
              cases ea'
              refine ⟨a, vs', v, rfl, rfl, h2, by rw [dpaLen h3, sizeLine_eq]; exact hl, ?_⟩
              exact q2 σ C2 _ (Same.refl _) (R2.write (hotOf_eq e3) ea (dpaApp h3 (.cons dd2 .nil)))
            · simp only [if_neg hl] at q2
              exact q2.elim
/-- xs[i] = e, xs a slot's hot list -/
def sStore (i : Nat) (mi ma : Mi PyData) : Rho → Fl := sBind ma fun d r => match hotOf r i with
  | none => .bad
  | some _ => sBind mi (fun k r' => match hotOf r' i, k with
    | some xs, .int n => match ixN xs.length n with
      | some j => .nx (r'.set i (some (.hot (xs.set j d))))
      | none => .bad
    | _, _ => .bad) r
theorem dsStore {i : Nat} {x : Str} {p1 p2 : Pos} {ei : Expr} {mi : Mi PyData} (hv : PE X (.Name x p1) (tVar i)) (hi : DE X W P mi ei) (h : DE X W P ma e)
    (hs : swapsWithSole [.Subscript (.Name x p1) ei p2] e pos.line X.env = pure false := by rfl) (hw : swappedStores [.Subscript (.Name x p1) ei p2] e X.env = pure none := by rfl)
    (h1 : (assignEach [.Subscript (.Name x p1) ei p2] X.env).map (·.2) = [assign (.Subscript (.Name x p1) ei p2) X.env] := by rfl)
    (ha : ∀ v, assign (.Subscript (.Name x p1) ei p2) X.env v = (do
      let ov ← holding [v] (eval (.Name x p1) X.env)
      let iv ← holding [v, ov] (eval ei X.env)
      standAt p2
      holding [v, ov, iv] (setItem ov iv v)
      release [v, ov, iv] []) := by intro _; rfl) : DS X W P (sStore i mi ma) (.Assign [.Subscript (.Name x p1) ei p2] e pos) :=
  fun F hF => psImp (ps_asg (h F hF) (pg_sub hv (hi F hF) set_list ha) hs hw h1) fun D σ H ⟨C, ρ, R, p⟩ => by
    refine ⟨C, ρ, R, (posBind p).imp fun v H1 ⟨C1, ρ1, d, s1, R1, d1, h1⟩ => ?_⟩
    cases e1 : hotOf ρ1 i with
    | none =>
      simp only [e1] at h1
      exact h1.elim
    | some xs1 =>
      simp only [e1] at h1
      obtain ⟨a, vs, ea, _⟩ := R1.hotAt (hotOf_eq e1)
      refine ⟨.ref a, ea, C1, ρ1, R1, (posBind h1).imp fun kv H2 ⟨C3, r3, k3, s3, R3, dk3, q3⟩ => ?_⟩
      cases e4 : hotOf r3 i with
      | none =>
        simp only [e4] at q3
        exact q3.elim
      | some xs =>
        cases dk3 with
        | int n =>
          simp only [e4] at q3
          cases e5 : ixN xs.length n with
          | none =>
            simp only [e5] at q3
            exact q3.elim
          | some j =>
            simp only [e5] at q3
            obtain ⟨a', vs', ea', g1, g2, g3⟩ := R3.hotAt (hotOf_eq e4)
            rw [ea] at ea'
            cases ea'
            refine ⟨a, vs', n, j, rfl, rfl, g2, by rw [dpaLen g3]; exact e5, ?_⟩
            exact q3 σ C3 _ (Same.refl _) (R3.write (hotOf_eq e4) ea (dpaSet (dpMono s3 d1) j g3))
        | _ =>
          simp only [e4] at q3
          all_goals exact q3.elim
/-! ### targets -/
def Wip (ts : List Nat) (σ σ' : L2.St) : Prop := ∀ vs : List Nat, (∀ i ∈ ts, i ∈ vs) → wipe σ' vs = wipe σ vs
def tG (X : Cx) (F : Fr0) (ts : List Nat) (g : PyData → Rho → Option Rho) : TG := fun v σ H Q => ∃ C ρ d, RE KD F C σ H ρ ∧ Dp KD C v d ∧ match g d ρ with
  | some r => ∀ σ' C' H', Same C C' → RE KD F C' σ' H' r → Wip ts σ σ' → Q σ' H'
  | none => False
def DG (X : Cx) (P : Pn) (ts : List Nat) (g : PyData → Rho → Option Rho) (tg : Expr) : Prop := ∀ F : Fr0, FOk F P → PG X tg (tG X F ts g)
def tGs (X : Cx) (F : Fr0) (ts : List Nat) (g : List PyData → Rho → Option Rho) : TGs := fun vs σ H Q => ∃ C ρ ds, RE KD F C σ H ρ ∧ DpAll KD C vs ds ∧ match g ds ρ with
  | some r => ∀ σ' C' H', Same C C' → RE KD F C' σ' H' r → Wip ts σ σ' → Q σ' H'
  | none => False
def DGs (X : Cx) (P : Pn) (ts : List Nat) (g : List PyData → Rho → Option Rho) (tgs : List Expr) : Prop := ∀ F : Fr0, FOk F P → PGs X tgs (tGs X F ts g)
theorem wipeIn : ∀ (vs : List Nat) (σ : L2.St) (j : Nat), j ∈ vs → j < σ.length → (wipe σ vs)[j]? = some none
  | [], _, _, h, _ => by cases h
  | v :: vs, σ, j, h, hl => by
    unfold wipe
    by_cases e : v = j
    · subst e
      rw [List.getElem?_set_self (by rw [wipe_length]; exact hl)]
    · rw [List.getElem?_set_ne e]
      rcases List.mem_cons.mp h with z | z
      · exact absurd z.symm e
      · exact wipeIn vs σ j z hl
theorem wipeOut : ∀ (vs : List Nat) (σ : L2.St) (j : Nat), j ∉ vs → (wipe σ vs)[j]? = σ[j]?
  | [], _, _, _ => rfl
  | v :: vs, σ, j, h => by
    unfold wipe
    rw [List.getElem?_set_ne (fun e => h (by rw [e]; exact List.mem_cons_self))]
    exact wipeOut vs σ j fun z => h (List.mem_cons_of_mem _ z)
theorem wipeSet {σ : L2.St} {i : Nat} {o : Option V} : Wip [i] σ (σ.set i o) := fun vs hv => by
  apply List.ext_getElem?
  intro j
  by_cases hj : j ∈ vs
  · by_cases hl : j < σ.length
    · rw [wipeIn vs _ j hj (by simpa using hl), wipeIn vs _ j hj hl]
    · rw [List.getElem?_eq_none (by rw [wipe_length]; simpa using hl), List.getElem?_eq_none (by rw [wipe_length]; simpa using hl)]
  · rw [wipeOut vs _ j hj, wipeOut vs _ j hj, List.getElem?_set_ne (fun e => hj (by rw [← e]; exact hv i List.mem_cons_self))]
def gNm (i : Nat) : PyData → Rho → Option Rho := fun d r => some (r.set i (some (.val d)))
theorem dgName {i : Nat} {x : Str} (h : PG X (.Name x pos) (gName i)) (hi : i ∉ P.ps) : DG X P [i] (gNm i) (.Name x pos) := fun F hF => pgImp h fun v σ H Q ⟨C, ρ, d, R, dv, q⟩ =>
  q _ C H (Same.refl _) (R.setVal (notPin hF hi) dv) wipeSet
def gN0 : List PyData → Rho → Option Rho
  | [], r => some r
  | _ :: _, _ => none
def gCn (g : PyData → Rho → Option Rho) (gs : List PyData → Rho → Option Rho) : List PyData → Rho → Option Rho
  | [], _ => none
  | d :: ds, r => match g d r with
    | some r' => gs ds r'
    | none => none
theorem dgNil : DGs X P [] gN0 [] := fun F _ => pgsImp pgs_nil fun vs σ H Q ⟨C, ρ, ds, R, dv, q⟩ => by
  cases dv with
  | nil => exact ⟨rfl, q σ C H (Same.refl _) R fun _ _ => rfl⟩
  | cons _ _ => exact q.elim
theorem dgCons {g : PyData → Rho → Option Rho} {gs : List PyData → Rho → Option Rho} {t : Expr} {ts : List Expr} {us ws : List Nat} (h1 : DG X P us g t) (h2 : DGs X P ws gs ts)
    (hs : (assignEach (t :: ts) X.env).map (·.2) = assign t X.env :: (assignEach ts X.env).map (·.2) := by rfl) : DGs X P (us ++ ws) (gCn g gs) (t :: ts) :=
  fun F hF => pgsImp (pgs_cons (h1 F hF) (h2 F hF) hs) fun vs σ H Q ⟨C, ρ, ds, R, dv, q⟩ => by
    cases dv with
    | nil => exact q.elim
    | @cons v vs d ds dv dn =>
      refine ⟨v, vs, rfl, C, ρ, d, R, dv, ?_⟩
      unfold gCn at q
      cases e : g d ρ with
      | none =>
        simp only [e] at q
      | some r =>
        simp only [e] at q
        exact fun σ' C' H' s R' w1 => ⟨C', r, ds, R', dpaMono s dn, by
          cases e2 : gs ds r with
          | none =>
            simp only [e2] at q
          | some r2 =>
            simp only [e2] at q
            exact fun σ2 C2 H2 s2 R2 w2 => q σ2 C2 H2 (s.trans s2) R2 fun zs hz => (w2 zs fun i hi => hz i (List.mem_append_right _ hi)).trans (w1 zs fun i hi => hz i (List.mem_append_left _ hi))⟩
def gTp (n : Nat) (gs : List PyData → Rho → Option Rho) : PyData → Rho → Option Rho := fun d r => match d with
  | .tuple ds => if ds.length = n then gs ds r else none
  | _ => none
theorem dgTup {gs : List PyData → Rho → Option Rho} {ts : List Expr} {us : List Nat} {k n : Nat} (hc : X.calm = true) (h : DGs X P us gs ts) (hn : (assignEach ts X.env).length = n := by rfl) (hst : (assignEach ts X.env).findIdx? (·.1) = none := by rfl) : DG X P us (gTp n gs) (.Tuple ts k pos) :=
  fun F hF => pgImp (pg_tup hc (h F hF) hn hst) fun v σ H Q ⟨C, ρ, d, R, dv, q⟩ => by
    cases dv with
    | @tup a xs ds hs hd =>
      unfold gTp at q
      by_cases hl : ds.length = n
      · simp only [if_pos hl] at q
        exact ⟨a, xs, rfl, upT (sameT R.ch hs), (dpaLen hd).trans hl, C, ρ, ds, R, hd, q⟩
      · simp only [if_neg hl] at q
    | _ => exact q.elim
/-- target = e -/
def sAsg (g : PyData → Rho → Option Rho) (m : Mi PyData) : Rho → Fl := sBind m fun d r => match g d r with
  | some r' => .nx r'
  | none => .bad
theorem dsAsg {g : PyData → Rho → Option Rho} {tg : Expr} {us : List Nat} (h : DE X W P ma e) (hg : DG X P us g tg) (hs : swapsWithSole [tg] e pos.line X.env = pure false := by rfl) (hw : swappedStores [tg] e X.env = pure none := by rfl)
    (h1 : (assignEach [tg] X.env).map (·.2) = [assign tg X.env] := by rfl) : DS X W P (sAsg g ma) (.Assign [tg] e pos) :=
  fun F hF => psImp (ps_asg (h F hF) (hg F hF) hs hw h1) fun D σ H ⟨C, ρ, R, p⟩ => ⟨C, ρ, R, (posBind p).imp fun v H1 ⟨C1, ρ1, d, s1, R1, d1, h1⟩ => ⟨C1, ρ1, d, R1, d1, by
    cases e : g d ρ1 with
    | none =>
      simp only [e] at h1
      exact h1
    | some r =>
      simp only [e] at h1
      exact fun σ' C' H' s R' _ => h1 σ' C' H' s R'⟩⟩

/-! ### what is walked -/
structure Iters (K : PySem.W.Frag) (C : Hp) (J : It) (ds : List PyData) : Prop where
  go : ∀ (i : Nat) (d : PyData) (C2 H2 : Hp), ds[i]? = some d → Same C C2 → Same C2 H2 → J.go i H2
  yld : ∀ (i : Nat) (d : PyData) (C2 H2 : Hp) (x : V) (H3 : Hp), ds[i]? = some d → Same C C2 → Same C2 H2 → J.yld i H2 x H3 → ∃ C3, Ext C2 H2 C3 H3 ∧ Dp K C3 x d
  stop : ∀ (C2 H2 : Hp), Same C C2 → Same C2 H2 → J.stop ds.length H2
def PoI (X : Cx) (F : Fr0) (W : WX) (C : Hp) (σ : L2.St) (R : It → Hp → Prop) : Out (List PyData) → Prop
  | .ok ds r => ∃ ds' : List PyData, ds' = ds ∧ ∀ J C' H', Same C C' → RE KD F C' σ H' r → Iters KD C' J ds → R J H'
  | .ex c w r => XP X F W C σ c w r
  | .bad => False
def tI (X : Cx) (F : Fr0) (W : WX) (m : Mi (List PyData)) : TI := fun σ H R => ∃ C ρ, RE KD F C σ H ρ ∧ PoI X F W C σ R (m ρ)
def DI (X : Cx) (W : WX) (P : Pn) (m : Mi (List PyData)) (tg iter : Expr) : Prop := ∀ F : Fr0, FOk F P → PI X tg iter (tI X F W m)
theorem itersL {K : PySem.W.Frag} {C : Hp} {a : Addr} {vs : List V} {ds : List PyData} (h : SqL K C a vs) (hd : DpAll KD C vs ds) : Iters KD C (Itl K a) ds where
  go := fun i d C2 H2 e s1 s2 => by
    obtain ⟨v, ev, _⟩ := dpaGet hd e
    exact ⟨vs, v, (s1.trans s2).seq h, ev⟩
  yld := fun i d C2 H2 x H3 e s1 s2 y => by
    obtain ⟨v, ev, dv⟩ := dpaGet hd e
    obtain ⟨rfl, y⟩ := y
    have z := y vs ((s1.trans s2).seq h)
    rw [ev] at z
    cases z
    exact ⟨C2, Ext.refl s2, dpMono s1 dv⟩
  stop := fun C2 H2 s1 s2 => ⟨vs, (s1.trans s2).seq h, Nat.le_of_eq (dpaLen hd)⟩
theorem itersT {K : PySem.W.Frag} {C : Hp} {a : Addr} {vs : List V} {ds : List PyData} (h : SqT K C a vs) (hd : DpAll KD C vs ds) : Iters KD C (Itt K a) ds where
  go := fun i d C2 H2 e s1 s2 => by
    obtain ⟨v, ev, _⟩ := dpaGet hd e
    exact ⟨vs, v, sameT (s1.trans s2) h, ev⟩
  yld := fun i d C2 H2 x H3 e s1 s2 y => by
    obtain ⟨v, ev, dv⟩ := dpaGet hd e
    obtain ⟨rfl, y⟩ := y
    have z := y vs (sameT (s1.trans s2) h)
    rw [ev] at z
    cases z
    exact ⟨C2, Ext.refl s2, dpMono s1 dv⟩
  stop := fun C2 H2 s1 s2 => ⟨vs, sameT (s1.trans s2) h, Nat.le_of_eq (dpaLen hd)⟩
def ranged (lo : Int) (n : Nat) : List PyData := (List.range n).map fun (i : Nat) => PyData.int (lo + (i : Int))
theorem itersR {K : PySem.W.Frag} {C : Hp} {lo : Int} {n : Nat} : Iters K C (Itr lo n) (ranged lo n) where
  go := fun i d C2 H2 e s1 s2 => by
    have hl : i < n := by
      have z := (List.getElem?_eq_some_iff.mp e).1
      simpa [ranged] using z
    exact hl
  yld := fun i d C2 H2 x H3 e s1 s2 y => by
    have hl : i < n := by
      have z := (List.getElem?_eq_some_iff.mp e).1
      simpa [ranged] using z
    have e' : d = .int (lo + (i : Int)) := by
      have z : (ranged lo n)[i]? = some (.int (lo + (i : Int))) := by simp [ranged, hl]
      rw [z] at e
      exact (Option.some.inj e).symm
    subst e'
    obtain ⟨rfl, rfl⟩ := y
    exact ⟨C2, Ext.refl s2, .int _⟩
  stop := fun C2 H2 s1 s2 => by
    show n ≤ (ranged lo n).length
    simp [ranged]
/-- the items of data -/
def items : PyData → Option (List PyData)
  | .list xs => some xs
  | .tuple xs => some xs
  | _ => none
def mIter (m : Mi PyData) : Mi (List PyData) := m.bind fun d => Mi.opt (items d)
theorem diSeq {tg : Expr} (h : DE X W P ma e) : DI X W P (mIter ma) tg e := fun F hF => by
  have hl := pi_list (tg := tg) (h F hF)
  have ht := pi_tup (tg := tg) (h F hF)
  refine ⟨fun pins s σ H R I hw => ?_⟩
  obtain ⟨C, ρ, RR, p⟩ := hw
  unfold mIter Mi.bind at p
  cases em : ma ρ with
  | bad =>
    rw [em] at p
    exact p.elim
  | ex c w r =>
    rw [em] at p
    exact hl.run pins s σ H R I ⟨C, ρ, RR, by rw [em]; exact p⟩
  | ok d r =>
    rw [em] at p
    cases d with
    | list ds =>
      refine hl.run pins s σ H R I ⟨C, ρ, RR, ?_⟩
      rw [em]
      intro v C1 H1 s1 R1 dv
      cases dv with
      | lst hs hd =>
        obtain ⟨_, _, p⟩ := p
        exact ⟨_, rfl, ⟨_, R1.ch.seq (upL hs)⟩, p _ C1 H1 s1 R1 (itersL (upL hs) hd)⟩
    | tuple ds =>
      refine ht.run pins s σ H R I ⟨C, ρ, RR, ?_⟩
      rw [em]
      intro v C1 H1 s1 R1 dv
      cases dv with
      | tup hs hd =>
        obtain ⟨_, _, p⟩ := p
        exact ⟨_, rfl, ⟨_, sameT R1.ch (upT hs)⟩, p _ C1 H1 s1 R1 (itersT (upT hs) hd)⟩
    | _ => exact p.elim
def rng1 (ds : List PyData) : Option (List PyData) := match ds with
  | [.int n] => if 0 ≤ n ∧ n ≤ 1048576 then some (ranged 0 n.toNat) else none
  | _ => none
def mRng (f : List PyData → Option (List PyData)) (ms : Mi (List PyData)) : Mi (List PyData) := ms.bind fun ds => Mi.opt (f ds)
theorem diRng1 {tg : Expr} {ms : Mi (List PyData)} {p : Pos} (hg : Gl X "range") (hm : X.mg "range" = none) (h : DA X W P ms [a]) (hs : starEach [a] X.env = [(false, eval a X.env)] := by rfl) : DI X W P (mRng rng1 ms) tg (.Call (.Name "range" p) [a] [] pos) :=
  fun F hF => piImp (pi_range1 hg hm (h F hF) hs) fun σ H R ⟨C, ρ, RR, p⟩ => by
    refine ⟨C, ρ, RR, ?_⟩
    unfold mRng Mi.bind at p
    cases em : ms ρ with
    | bad =>
      rw [em] at p
      exact p.elim
    | ex c w r =>
      rw [em] at p
      exact p
    | ok ds r =>
      rw [em] at p
      intro vs C1 H1 s1 R1 dv
      have dv := dv.1
      cases er : rng1 ds with
      | none =>
        simp only [er, Mi.opt] at p
        exact p.elim
      | some zs =>
        simp only [er, Mi.opt] at p
        obtain ⟨_, _, p⟩ := p
        unfold rng1 at er
        split at er
        · split at er
          · rename_i hb
            cases er
            cases dv with
            | cons d1 d2 =>
              cases d1
              cases d2
              exact ⟨_, rfl, by omega, by omega, p _ C1 H1 s1 R1 itersR⟩
          · cases er
        · cases er
def rng2 (ds : List PyData) : Option (List PyData) := match ds with
  | [.int m, .int n] => if 0 ≤ m ∧ m ≤ 1048576 ∧ 0 ≤ n ∧ n ≤ 1048576 then some (ranged m (n - m).toNat) else none
  | _ => none
theorem diRng2 {tg : Expr} {ms : Mi (List PyData)} {p : Pos} (hg : Gl X "range") (hm : X.mg "range" = none) (h : DA X W P ms [a, b]) (hs : starEach [a, b] X.env = [(false, eval a X.env), (false, eval b X.env)] := by rfl) (hs2 : starEach [b] X.env = [(false, eval b X.env)] := by rfl) :
    DI X W P (mRng rng2 ms) tg (.Call (.Name "range" p) [a, b] [] pos) :=
  fun F hF => piImp (pi_range2 hg hm (h F hF) hs hs2) fun σ H R ⟨C, ρ, RR, p⟩ => by
    refine ⟨C, ρ, RR, ?_⟩
    unfold mRng Mi.bind at p
    cases em : ms ρ with
    | bad =>
      rw [em] at p
      exact p.elim
    | ex c w r =>
      rw [em] at p
      exact p
    | ok ds r =>
      rw [em] at p
      intro vs C1 H1 s1 R1 dv
      have dv := dv.1
      cases er : rng2 ds with
      | none =>
        simp only [er, Mi.opt] at p
        exact p.elim
      | some zs =>
        simp only [er, Mi.opt] at p
        obtain ⟨_, _, p⟩ := p
        unfold rng2 at er
        split at er
        · split at er
          · rename_i hb
            cases er
            cases dv with
            | cons d1 d2 =>
              cases d2 with
              | cons d2 d3 =>
                cases d1
                cases d2
                cases d3
                exact ⟨_, _, rfl, by omega, p _ C1 H1 s1 R1 itersR⟩
          · cases er
        · cases er

/-! ### for, while -/
def forL (g : PyData → Rho → Option Rho) (b : Rho → Fl) : List PyData → Rho → Fl
  | [], r => .nx r
  | d :: ds, r => match g d r with
    | none => .bad
    | some r1 => match b r1 with
      | .nx r2 => forL g b ds r2
      | .ct r2 => forL g b ds r2
      | .bk r2 => .nx r2
      | .rt d r2 => .rt d r2
      | .ex c w r2 => .ex c w r2
      | .bad => .bad
def sFor (m : Mi (List PyData)) (g : PyData → Rho → Option Rho) (b : Rho → Fl) : Rho → Fl := sBind m (forL g b)
theorem dsFor {tg it : Expr} {m : Mi (List PyData)} {g : PyData → Rho → Option Rho} (hp : PassesOwn (model X.prog X.w) X.A X.env X.xe) (hc : X.calm = true) (hi : DI X W P m tg it) {us : List Nat} (hg : DG X P us g tg) (hb : DSs X W P s sts) (hs : ∀ x, foldedSetIterable it X.env x = pure x := by intro _; rfl) :
    DS X W P (sFor m g s) (.For tg it sts [] pos) := fun F hF => psImp (ps_for hp hc (hi F hF) (hg F hF) (hb F hF) hs) fun D σ H ⟨C, ρ, R, p⟩ => by
  refine ⟨C, ρ, R, ?_⟩
  unfold sFor sBind at p
  cases em : m ρ with
  | bad =>
    rw [em] at p
    exact p.elim
  | ex c w r =>
    rw [em] at p
    exact p σ
  | ok ds r =>
    rw [em] at p
    refine ⟨ds, rfl, fun J C1 H1 s1 R1 its => ?_⟩
    refine ⟨fun i n σ2 H2 => n + i = ds.length ∧ ∃ C2 ρ2, Same C1 C2 ∧ RE KD F C2 σ2 H2 ρ2 ∧ PoS X F W C2 D (forL g s (ds.drop i) ρ2), ⟨ds.length, rfl, C1, r, Same.refl _, R1, PoS.mono p s1⟩, fun i n σ2 H2 hW => ?_⟩
    obtain ⟨hn, C2, ρ2, s2, R2, p2⟩ := hW
    by_cases hl : i < ds.length
    · refine .inr ⟨its.go i _ C2 H2 (List.getElem?_eq_getElem hl) s2 R2.ch, fun σ' H' => ∃ C3 ρ3, Same C1 C3 ∧ RE KD F C3 σ' H' ρ3 ∧ PoS X F W C3 D (forL g s (ds.drop (i + 1)) ρ3), fun σ' H' hN => ?_, fun x H3 y => ?_⟩
      · exact ⟨n - 1, by omega, by omega, hN⟩
      · obtain ⟨C3, ex, dx⟩ := its.yld i _ C2 H2 x H3 (List.getElem?_eq_getElem hl) s2 R2.ch y
        have R3 := R2.grow ex
        rw [List.drop_eq_getElem_cons hl] at p2
        unfold forL at p2
        have p3 := p2.mono ex.cc
        refine ⟨C3, ρ2, ds[i], R3, dx, ?_⟩
        cases eg : g ds[i] ρ2 with
        | none =>
          rw [eg] at p3
          exact p3
        | some r1 =>
          rw [eg] at p3
          refine fun σ4 C4 H4 s4 R4 _ => ⟨C4, r1, R4, ?_⟩
          have p4 := p3.mono s4
          simp only at p4
          cases eb : s r1 with
          | nx r2 =>
            rw [eb] at p4
            exact fun σ5 C5 H5 s5 R5 => ⟨C5, r2, (s2.trans ex.cc).trans (s4.trans s5), R5, p4.mono s5⟩
          | ct r2 =>
            rw [eb] at p4
            exact fun σ5 C5 H5 s5 R5 => ⟨C5, r2, (s2.trans ex.cc).trans (s4.trans s5), R5, p4.mono s5⟩
          | bk r2 =>
            rw [eb] at p4
            exact p4
          | rt d r2 =>
            rw [eb] at p4
            exact p4
          | ex c w r2 =>
            rw [eb] at p4
            exact p4
          | bad =>
            rw [eb] at p4
            exact p4
    · have e : i = ds.length := by omega
      subst e
      refine .inl ⟨its.stop C2 H2 s2 R2.ch, ?_⟩
      rw [List.drop_length] at p2
      exact p2 σ2 C2 H2 (Same.refl _) R2
def whileF (t : Mi Bool) (b : Rho → Fl) : Nat → Rho → Fl
  | 0 => fun _ => .bad
  | n + 1 => sBind t fun k r => if k then (match b r with
      | .nx r2 => whileF t b n r2
      | .ct r2 => whileF t b n r2
      | .bk r2 => .nx r2
      | .rt d r2 => .rt d r2
      | .ex c w r2 => .ex c w r2
      | .bad => .bad) else .nx r
theorem dsWhile {t : Mi Bool} {n : Nat} (hp : PassesOwn (model X.prog X.w) X.A X.env X.xe) (ht : DT X W P t c) (hb : DSs X W P s sts) : DS X W P (whileF t s n) (.While c sts [] pos) :=
  fun F hF => psImp (ps_while hp (ht F hF) (hb F hF)) fun D σ H ⟨C, ρ, R, p⟩ => by
    refine ⟨fun k σ2 H2 => ∃ C2 ρ2, RE KD F C2 σ2 H2 ρ2 ∧ PoS X F W C2 D (whileF t s k ρ2), ⟨n, C, ρ, R, p⟩, fun k σ2 H2 hW => ?_⟩
    obtain ⟨C2, ρ2, R2, p2⟩ := hW
    cases k with
    | zero => exact p2.elim
    | succ k =>
      unfold whileF at p2
      refine ⟨C2, ρ2, R2, (posBind p2).imp fun x H3 ⟨C3, ρ3, d, s3, R3, d3, h3⟩ => ?_⟩
      have d3' : x = d := d3
      subst d3'
      cases x with
      | false =>
        simp only [Bool.false_eq_true, if_false] at h3
        exact iteF (h3 σ2 C3 H3 (Same.refl _) R3)
      | true =>
        simp only [if_true] at h3
        refine iteT ⟨fun σ' H' => ∃ C5 ρ5, RE KD F C5 σ' H' ρ5 ∧ PoS X F W C5 D (whileF t s k ρ5), fun σ' H' z => ⟨k, Nat.lt_succ_self _, z⟩, C3, ρ3, R3, ?_⟩
        cases eb : s ρ3 with
        | nx r2 =>
          rw [eb] at h3
          exact fun σ5 C5 H5 s5 R5 => ⟨C5, r2, R5, h3.mono s5⟩
        | ct r2 =>
          rw [eb] at h3
          exact fun σ5 C5 H5 s5 R5 => ⟨C5, r2, R5, h3.mono s5⟩
        | bk r2 =>
          rw [eb] at h3
          exact h3
        | rt d r2 =>
          rw [eb] at h3
          exact h3
        | ex c w r2 =>
          rw [eb] at h3
          exact h3
        | bad =>
          rw [eb] at h3
          exact h3
end
end Dn
set_option maxHeartbeats 4000000
namespace Dn
open PySem PySem.Spec PyProof.Rows L2

/-! ## defs that run where nothing is being shown -/
structure FnG (Pg : Program) (w : World) (K : PySem.W.Frag) (mg : Str → Option Value) (base : Heap) (k : Nat) (f : Addr) (fd : FuncData) (ps : List Str) (sp : Sp) : Prop where
  len : ∀ vs H Q E, sp vs H Q E → vs.length = ps.length
  run : ∀ (A : Around) (outer : List Env) (s : Shared) (H : Hp) (args : Args) (us : List Value) (vs : List V) (Q : VK) (E : XK), A.guards = some [] → Room k A →
    Env0 Pg w K mg base A outer s H → BindsTo s fd args (ps.zip us) → Vals vs us → sp vs H Q E → codeAny (model Pg w) A (.call (.ref f) args) (CR (L2.CX Pg w) outer Pg w H s Q E) s
section
variable {Pg : Program} {w : World} {K : PySem.W.Frag} {mg : Str → Option Value} {base : Heap}
theorem fnG_of {x qual : Str} {st : Stmt} {f : Addr} {fd : FuncData} {N ps : List Str} {k : Nat} {sp : Sp} (FF : Fun K x qual st f fd) (S : FnScope N ps (defScope st)) (len : ∀ vs H Q E, sp vs H Q E → vs.length = ps.length)
    (hbody : ∀ (cdv : Value) (A : Around) (outer : List Env) (s : Shared) (H : Hp) (vs : List V) (Q : VK) (E : XK), A.guards = some [] → Room k (A.deeper (PyProof.Rows.envOfC qual (defScope st) s.heap.objs.size f cdv)) → sp vs H Q E →
      ∃ t, PSs (cxOf (L2.CX Pg w) Pg w K mg base N qual (defScope st) f cdv A outer s H E) (defBody st) t ∧ t { nx := fun _ H' => Q .non H', rt := Q } (L2.start N vs) H) :
    FnG Pg w K mg base (k + 1) f fd ps sp := by
  obtain ⟨oc, od, kV, doc, pm, an, cdv, ct, osl, rfl, lk, hcd⟩ := FF.ex
  refine ⟨len, fun A outer s H args us vs Q E hG hr e0 hb rv hsp => ?_⟩
  have kept : ∀ b o, base.get? b = some o → s.heap.get? b = some o := fun b o e => (e0.bs b o e).1
  have KX : K.In s.heap := e0.mod.kin.keeps kept
  have lim : s.heap.NoLimit := e0.mod.nolimit.keeps kept
  refine codeAny_call_function hr.depth (KX _ _ lk) rfl S.co S.gen rfl (PySem.W.codeRec_of KX hcd) (hb _ _ _ _ ?_)
  refine wpAny_newFunctionEnv_cells S.kind (fun y hy => ?_) fun env he s1 x1 => ?_
  · obtain ⟨n, u⟩ := y
    rcases S.par n (List.of_mem_zip hy).1 with q | q
    · exact Or.inl q
    · exact Or.inr ⟨q, PySem.W.cellsFrom_some _ _ _ (Or.inl q)⟩
  · subst he
    obtain ⟨t, ht, hq⟩ := hbody cdv A outer s H vs Q E hG (hr.deeper _) hsp
    have I := inv_start (CX := L2.CX Pg w) (P := Pg) (w := w) (K := K) (mg := mg) (base := base) (E := E) S hr.hd e0 (len _ _ _ _ hsp) rv x1
    refine ⟨lim.keeps x1.toInCall.keep, codeAny_func (wpAny_mono (ht.run [] s1 (L2.start N vs) H _ I hq) (fun fl s' hs => ?_) fun e s' hs => hs)⟩
    cases fl with
    | next =>
      obtain ⟨σ', H', J, q⟩ := hs
      exact ⟨V.non, H', J.os, J.bare, J.base, J.hok, rfl, q⟩
    | ret u =>
      obtain ⟨v, σ', H', J, rv', q⟩ := hs
      exact ⟨v, H', J.os, J.bare, J.base, J.hok, rv', q⟩
    | brk => exact False.elim hs.choose_spec.choose_spec.2
    | cont => exact False.elim hs.choose_spec.choose_spec.2
end
section
variable {X : Cx} {k : Nat} {f : Addr} {fd : FuncData} {ps : List Str} {sp : Sp} {E : L2.St → XK} {x : Str} {p pos : Pos} {e : Expr} {es : List Expr} {t : TA}
theorem pe_callG (FN : FnG X.prog X.w X.K X.mg X.base k f fd ps sp) (hG : X.A.guards = some []) (hr : Room k X.A) (hg : Gl X x) (hm : X.mg x = some (.ref f)) (hk : PySem.W.keepIn X.K (.ref f) = true) (hb : Binds X.K fd ps [])
    (hx : ∀ σ, PassesAt (L2.CX X.prog X.w) X σ (E σ)) (ha : PA X (e :: es) t) (hdb : (x == ("__debug__" : Str)) = false := by decide)
    (he : starEach (e :: es) X.env = (false, eval e X.env) :: starEach es X.env := by rfl) (hpl : (backTo pos (starEach es X.env)).any (·.1) = false := by rfl) : PE X (.Call (.Name x p) (e :: es) [] pos) (tCallS sp E t) := by
  constructor
  intro pins s σ H Q I hw
  apply wpAny_Call_Name_kw
  refine ld_glob I hg hm ?_ hdb
  refine PySem.W.callWith_K (h₀ := X.base) I.ok.mod.kin hk (thn (ha.run pos pins s σ H _ I hw) ?_) he hpl
  intro us s1 hq1
  obtain ⟨vs, H1, I1, rv, q⟩ := hq1
  refine ⟨I1.kIn, ?_⟩
  have hl : us.length = ps.length := rv.length.symm.trans (FN.len _ _ _ _ q)
  have bd := hb s1 us I1.kIn (by rw [List.append_nil]; exact hl)
  rw [List.append_nil] at bd
  apply wpAny_call
  refine codeAny_mono (FN.run X.A X.stack s1 H1 ⟨us, []⟩ us vs Q (E σ) hG hr I1.env0 bd rv q) ?_
  intro res s' hres
  match res, hres with
  | .error e, hres => exact hx σ pins H1 s1 e s' I1 hres
  | .ok (.ret u), hres => exact I1.after hres
  | .ok .next, hres => exact False.elim hres
  | .ok .brk, hres => exact False.elim hres
  | .ok .cont, hres => exact False.elim hres
end
/-- the call of the law itself -/
theorem lawG {Pg : Program} {w : World} {K : PySem.W.Frag} {mg mb : Str → Option Value} {k : Nat} {fa a : Addr} {fd : FuncData} {x : Str} {sp : Sp} {sh : Shared} {vs : List Value} {ns : List Int}
    (KX : K.In sh.heap) (hns : sh.heap.Ns mainGlobals mg) (hb : sh.heap.Ns builtinsNs mb) (hbb : ∀ y : Str, y ≠ "__name__" → mb y = bootBuiltins y) (hlim : sh.heap.NoLimit) (hg : sh.gens = #[])
    (ha : sh.heap.get? a = some { cls := .type "list", data := .seq vs.toArray }) (hi : IntsAre vs ns) (hl : ns.length ≤ sizeLine) (hr : Room k callerA)
    (F : ∀ base : Heap, K.In base → base.Ns mainGlobals mg → FnG Pg w K mg base k fa fd [x] sp) (hbind : ∀ (s : Shared) (u : Value), BindsTo s fd ⟨[u], []⟩ [(x, u)])
    (hsp : ∀ H : Hp, Only H → SqL K H a (ns.map V.int) → sp [.ref a] H (fun v _ => v = .bl true) fun _ _ _ => False) :
    codeAny (model Pg w) callerA (.call (.ref fa) ⟨[.ref a], []⟩) (fun r s' => r = .ok (.ret (.bool true)) ∧ OldK sh.heap s'.heap ∧ s'.os = sh.os ∧ AllBare s'.gens) sh := by
  have rv := vals_ints hi
  have lenV := hi.length
  let ob : Obj := { cls := .type "list", data := .seq vs.toArray }
  have main : ∀ H : Hp, Only H → SqL K H a (ns.map V.int) → HOk Pg w H sh.heap → (∀ b, b ≠ a → H b = none) → (∀ u, H a = some u → K.lookup a = none) →
      codeAny (model Pg w) callerA (.call (.ref fa) ⟨[.ref a], []⟩) (fun r s' => r = .ok (.ret (.bool true)) ∧ OldK sh.heap s'.heap ∧ s'.os = sh.os ∧ AllBare s'.gens) sh := by
    intro H only seq ok others own
    have stay : ∀ {b : Addr} {o : Obj}, H b = none → sh.heap.get? b = some o → (hidT sh.heap H).get? b = some o := fun n e => hidT_get e n
    have dicts : ∀ {b : Addr} {m : Str → Option Value}, sh.heap.Ns b m → (hidT sh.heap H).Ns b m := by
      rintro b m ⟨o, es, ep, e, d, r⟩
      refine ⟨o, es, ep, stay ?_ e, d, r⟩
      by_cases hba : b = a
      · rw [hba, ha] at e
        cases e
        cases d
      · exact others b hba
    have kin : K.In (hidT sh.heap H) := by
      intro b o e
      refine stay ?_ (KX b o e)
      by_cases hba : b = a
      · cases q : H b with
        | none => rfl
        | some u =>
          rw [hba] at q e
          rw [own u q] at e
          cases e
      · exact others b hba
    have md : Mod K mg (hidT sh.heap H) := by
      obtain ⟨mc, l1, l2⟩ := hlim
      exact ⟨kin, dicts hns, ⟨mb, dicts hb, hbb⟩, ⟨mc, dicts l1, l2⟩⟩
    have e0 : Env0 Pg w K mg (hidT sh.heap H) callerA [] sh H :=
      { frames := rfl, mod := md, «bs» := fun b o => of_hidT, bsz := Nat.le_of_eq (hidT_size _ _), funs := trivial, frf := fun b hb' => (by cases hb'), hok := ok, bare := .of_eq hg }
    refine codeAny_mono ((F _ kin (dicts hns)).run callerA [] sh H ⟨[.ref a], []⟩ [.ref a] [.ref a] _ _ rfl hr e0 (hbind sh (.ref a)) (.cons rfl .nil) (hsp H only seq)) ?_
    intro res s' hres
    match res, hres with
    | .error e, hres =>
      obtain ⟨_, _, _, _, _, _, _, _, _, _, _, _, z⟩ := hres
      exact z.elim
    | .ok .next, hres => exact False.elim hres
    | .ok .brk, hres => exact False.elim hres
    | .ok .cont, hres => exact False.elim hres
    | .ok (.ret u), hres =>
      obtain ⟨v, H', os, bare, un, ok', rel, q⟩ := hres
      have ev : v = .bl true := q
      subst ev
      have eu : u = Value.bool true := rel
      subst eu
      refine ⟨rfl, OldK.of_keep ?_, os, bare⟩
      intro b o e
      rcases only b with n | ⟨o2, xs, z⟩
      · exact un.keep b o e n (fun y => by cases y) (fun y => by cases y)
      · have z2 := un.frzs b o2 _ z
        have e1 := (ok b _ z).1
        have e2 := (ok' b _ z2).1
        rw [e] at e1
        cases e1
        exact e2
  cases hk : K.lookup a with
  | none =>
    have at_ : ∀ b u, (fun b => if b = a then some (HO.frz ob (.lst (ns.map V.int))) else none : Hp) b = some u → b = a ∧ u = .frz ob (.lst (ns.map V.int)) := by
      intro b u z
      by_cases hba : b = a
      · have z' := (if_pos hba).symm.trans z
        cases z'
        exact ⟨hba, rfl⟩
      · have z' := (if_neg hba).symm.trans z
        cases z'
    refine main (fun b => if b = a then some (HO.frz ob (.lst (ns.map V.int))) else none) (fun b => ?_) (Or.inl (Or.inr ⟨ob, if_pos rfl⟩)) (fun b u z => ?_) (fun b hba => if_neg hba) fun _ _ => hk
    · by_cases hba : b = a
      · exact Or.inr ⟨_, _, if_pos hba⟩
      · exact Or.inl (if_neg hba)
    · obtain ⟨rfl, rfl⟩ := at_ b u z
      exact ⟨ha, by rw [List.length_map]; exact hl, vs, _, rv, ha⟩
  | some o =>
    have e := KX a o hk
    rw [ha] at e
    cases e
    refine main (fun _ => none) (fun _ => Or.inl rfl) (Or.inr ⟨ob, vs.toArray, _, hk, rfl, rfl, rfl, ?_, by simpa using rv⟩) ?_ (fun _ _ => rfl) ?_
    · rw [List.size_toArray, lenV]
      exact hl
    · intro b u z
      cases z
    · intro u z
      cases z
theorem walkG {l : PySem.W.OpenLaw} {n k : Nat} {q : Program} {loose : List Str} {XP : (Str → Option Value) → Heap → Prop} {YP : World → Heap → Prop} {d : DefRec} {K : Params → PySem.W.Frag} {sp : World → Sp} {x : Str}
    (hn : l.most = some n) (hn2 : n ≤ sizeLine) (hdf : d.params.defaults = []) (hr : Room k callerA) (hY : ∀ (w : World) (h : Heap), YP w h → (K w.params).In h)
    (F : ∀ (w : World) (mg : Str → Option Value) (fa : Addr) (h : Heap), (K w.params).In h → h.Ns mainGlobals mg → mg d.name = some (.ref fa) →
      ∃ fd : FuncData, (∀ (s : Shared) (u : Value), BindsTo s fd ⟨[u], []⟩ [(x, u)]) ∧ ∀ base : Heap, (K w.params).In base → base.Ns mainGlobals mg → FnG l.prog w (K w.params) mg base k fa fd [x] (sp w))
    (hsp : ∀ (w : World) (H : Hp) (a : Addr) (ns : List Int), ns.length ≤ n → Only H → SqL (K w.params) H a (ns.map V.int) → sp w [.ref a] H (fun v _ => v = .bl true) fun _ _ _ => False) :
    PySem.W.WalkO q loose XP YP l.row.toRowW d [] (fun f vs => PySem.call f vs) := by
  apply Att.attach_call hn hdf
  intro w s₀ sh mg mb fa o pm cd doc a vs ns G Y _ _ _ hmg hobj hints hlen hgn
  have KX := hY w _ Y
  obtain ⟨fd, hbd, hF⟩ := F w mg fa _ KX G.T.g hmg
  exact lawG KX G.T.g G.T.b G.T.builtins G.T.nolimit hgn hobj hints (Nat.le_trans hlen hn2) hr hF hbd (fun H hO hS => hsp w H a ns hlen hO hS)
end Dn
set_option maxHeartbeats 4000000
namespace Dn
open PySem PySem.Spec L2

/-! ## calls of the program's own defs -/
theorem pairGet {α β : Type} {R : α → β → Prop} : ∀ {xs : List α} {ys : List β} {k : Nat} {x : α}, Paired R xs ys → xs[k]? = some x → ∃ y, ys[k]? = some y ∧ R x y
  | _, _, _, _, .nil, e => by simp at e
  | _, _, 0, _, .cons r _, e => by
    simp at e
    subst e
    exact ⟨_, rfl, r⟩
  | _, _, k + 1, x, .cons _ t, e => by
    obtain ⟨y, h1, h2⟩ := pairGet (k := k) (x := x) t (by simpa using e)
    exact ⟨y, by simpa using h1, h2⟩
theorem pairGet2 {α β : Type} {R : α → β → Prop} : ∀ {xs : List α} {ys : List β} {k : Nat} {y : β}, Paired R xs ys → ys[k]? = some y → ∃ x, xs[k]? = some x ∧ R x y
  | _, _, _, _, .nil, e => by simp at e
  | _, _, 0, _, .cons r _, e => by
    simp at e
    subst e
    exact ⟨_, rfl, r⟩
  | _, _, k + 1, y, .cons _ t, e => by
    obtain ⟨x, h1, h2⟩ := pairGet2 (k := k) (y := y) t (by simpa using e)
    exact ⟨x, by simpa using h1, h2⟩
theorem pairLen {α β : Type} {R : α → β → Prop} : ∀ {xs : List α} {ys : List β}, Paired R xs ys → xs.length = ys.length
  | _, _, .nil => rfl
  | _, _, .cons _ t => congrArg (· + 1) (pairLen t)
theorem pairImp {α β : Type} {R S : α → β → Prop} (h : ∀ x y, R x y → S x y) : ∀ {xs : List α} {ys : List β}, Paired R xs ys → Paired S xs ys
  | _, _, .nil => .nil
  | _, _, .cons r t => .cons (h _ _ r) (pairImp h t)

structure CallExt (K : PySem.W.Frag) (T : List (Addr × Str)) (C H C' H' : Hp) (as : List Addr) (outs : List (List PyData)) : Prop where
  cc : Same C C'
  ch : Same C' H'
  fr : ∀ b o, H b = some o → C b = none → C' b = none ∧ (∃ o', H' b = some o') ∧ (b ∉ as → (∀ ps, o ≠ .tbl ps) → H' b = some o)
  tabs : LamX.Tabs T H'
  tabC : ∀ (b : Addr) (ps : Array Value), C' b ≠ some (.tbl ps)
  out : Paired (fun (a : Addr) (xs : List PyData) => ∃ ws, H' a = some (.lst ws) ∧ DpAll K C' ws xs) as outs

def upHot (r : Rho) : List Nat → List (List PyData) → Rho
  | i :: is, xs :: xss => upHot (r.set i (some (.hot xs))) is xss
  | _, _ => r
theorem upHot_len : ∀ (is : List Nat) (outs : List (List PyData)) (r : Rho), (upHot r is outs).length = r.length
  | [], _, _ => rfl
  | _ :: _, [], _ => rfl
  | i :: is, xs :: xss, r => by
    unfold upHot
    rw [upHot_len is xss]
    simp
theorem upHot_out : ∀ (is : List Nat) (outs : List (List PyData)) (r : Rho) (j : Nat), j ∉ is → (upHot r is outs)[j]? = r[j]?
  | [], _, _, _, _ => rfl
  | _ :: _, [], _, _, _ => rfl
  | i :: is, xs :: xss, r, j, h => by
    unfold upHot
    rw [upHot_out is xss _ j (fun z => h (List.mem_cons_of_mem _ z)), List.getElem?_set_ne (fun z => h (by rw [z]; exact List.mem_cons_self))]
theorem upHot_in : ∀ (is : List Nat) (outs : List (List PyData)) (r : Rho) (k j : Nat) (xs : List PyData), is.Nodup → is[k]? = some j → outs[k]? = some xs → j < r.length → (upHot r is outs)[j]? = some (some (.hot xs))
  | [], _, _, _, _, _, _, h, _, _ => by simp at h
  | _ :: _, [], _, _, _, _, _, _, h, _ => by simp at h
  | i :: is, ys :: xss, r, 0, j, xs, nd, h1, h2, hl => by
    have e1 : i = j := by simpa using h1
    have e2 : ys = xs := by simpa using h2
    subst e1 e2
    have n := List.nodup_cons.mp nd
    unfold upHot
    rw [upHot_out is xss _ i n.1, List.getElem?_set_self hl]
  | i :: is, ys :: xss, r, k + 1, j, xs, nd, h1, h2, hl => by
    have n := List.nodup_cons.mp nd
    unfold upHot
    exact upHot_in is xss _ k j xs n.2 (by simpa using h1) (by simpa using h2) (by simpa using hl)
theorem RE.call {K : PySem.W.Frag} {F : Fr0} {C H C' H' : Hp} {σ : L2.St} {ρ : Rho} {as : List Addr} {outs : List (List PyData)} {is : List Nat} (R : RE K F C σ H ρ) (x : CallExt K F.tb C H C' H' as outs) (nd : is.Nodup)
    (hp : Paired (fun (i : Nat) (a : Addr) => σ[i]? = some (some (.ref a)) ∧ ∃ xs, ρ[i]? = some (some (.hot xs))) is as) : RE K F C' σ H' (upHot ρ is outs) := by
  have inn : ∀ (j : Nat) (a : Addr), j ∈ is → σ[j]? = some (some (.ref a)) → ∃ (k : Nat) (xs ys : List PyData), as[k]? = some a ∧ outs[k]? = some xs ∧ (upHot ρ is outs)[j]? = some (some (.hot xs)) ∧ ρ[j]? = some (some (.hot ys)) := fun j a hj e => by
    obtain ⟨k, hk, ek⟩ := List.getElem_of_mem hj
    have e1 : is[k]? = some j := by rw [List.getElem?_eq_getElem hk, ek]
    obtain ⟨a', e2, e3, ys, e4⟩ := pairGet hp e1
    rw [e] at e3
    cases e3
    obtain ⟨xs, e5, _⟩ := pairGet x.out e2
    have hl : j < ρ.length := by
      rcases Nat.lt_or_ge j ρ.length with z | z
      · exact z
      · rw [List.getElem?_eq_none z] at e4
        cases e4
    exact ⟨k, xs, ys, e2, e5, upHot_in is outs ρ k j xs nd e1 e5 hl, e4⟩
  have adr : ∀ (j : Nat), j ∈ is → ∃ a, σ[j]? = some (some (.ref a)) ∧ a ∈ as := fun j hj => by
    obtain ⟨k, hk, ek⟩ := List.getElem_of_mem hj
    obtain ⟨a, e2, e3, _⟩ := pairGet hp (k := k) (x := j) (by rw [List.getElem?_eq_getElem hk, ek])
    exact ⟨a, e3, List.mem_of_getElem? e2⟩
  have ofAs : ∀ a ∈ as, ∃ j ∈ is, σ[j]? = some (some (.ref a)) ∧ ∃ ys, ρ[j]? = some (some (.hot ys)) := fun a ha => by
    obtain ⟨k, hk, ek⟩ := List.getElem_of_mem ha
    obtain ⟨j, e1, e2, e3⟩ := pairGet2 hp (k := k) (y := a) (by rw [List.getElem?_eq_getElem hk, ek])
    exact ⟨j, List.mem_of_getElem? e1, e2, e3⟩
  have old : ∀ (j : Nat) (zs : List PyData), (upHot ρ is outs)[j]? = some (some (.hot zs)) → ∃ ys, ρ[j]? = some (some (.hot ys)) := fun j zs h => by
    by_cases hj : j ∈ is
    · obtain ⟨a, e, _⟩ := adr j hj
      obtain ⟨_, _, ys, _, _, _, e4⟩ := inn j a hj e
      exact ⟨ys, e4⟩
    · rw [upHot_out is outs ρ j hj] at h
      exact ⟨zs, h⟩
  refine ⟨R.c0.trans x.cc, x.ch, fun b o q1 q2 => ?_, fun j e hj => ?_, fun i j xs ys a q1 q2 q3 q4 => ?_, fun i xs a q1 q2 => ?_, fun p hp' => ?_, by rw [upHot_len]; exact R.len, fun g hg => ?_, x.tabs, x.tabC, R.raw, R.bb.trans x.cc⟩
  · obtain ⟨e1, ⟨o', e2⟩, e3⟩ := R.fr b o q1 q2
    obtain ⟨f1, f2, f3⟩ := x.fr b o' e2 e1
    refine ⟨f1, f2, fun z nt => ?_⟩
    have nb : b ∉ as := fun hb => by
      obtain ⟨j, _, ej, ys, ey⟩ := ofAs b hb
      rcases R.own j ys b ey ej with w | w
      · exact z _ w rfl
      · rw [w] at q1
        cases q1
    have e4 := e3 z nt
    rw [e2] at e4
    cases e4
    exact f3 nb nt
  · by_cases hi : j ∈ is
    · obtain ⟨a, ea, ha⟩ := adr j hi
      obtain ⟨k, xs, ys, e1, e2, e3, e4⟩ := inn j a hi ea
      rw [e3] at hj
      cases hj
      obtain ⟨xs', e5, ws, e6, e7⟩ := pairGet x.out e1
      rw [e2] at e5
      cases e5
      obtain ⟨a', vs', g1, g2, g3, g4⟩ := R.hotAt e4
      rw [ea] at g1
      cases g1
      exact ⟨.ref a, ea, a, ws, rfl, (x.fr a _ g3 g2).1, e6, e7⟩
    · rw [upHot_out is outs ρ j hi] at hj
      obtain ⟨v, e1, e2⟩ := R.sl j e hj
      refine ⟨v, e1, ?_⟩
      cases e with
      | val d => exact dpMono x.cc e2
      | hot zs =>
        obtain ⟨b, us, rfl, g1, g2, g3⟩ := e2
        have nb : b ∉ as := fun hb => by
          obtain ⟨j', hj', ej, ys, ey⟩ := ofAs b hb
          have z := R.inj j j' zs ys b hj ey e1 ej
          subst z
          exact hi hj'
        obtain ⟨f1, _, f3⟩ := x.fr b _ g2 g1
        exact ⟨b, us, rfl, f1, f3 nb (fun _ z => (by cases z)), dpaMono x.cc g3⟩
  · obtain ⟨z1, y1⟩ := old i xs q1
    obtain ⟨z2, y2⟩ := old j ys q2
    exact R.inj i j z1 z2 a y1 y2 q3 q4
  · obtain ⟨z1, y1⟩ := old i xs q1
    exact R.own i z1 a y1 q2
  · obtain ⟨e1, xs, e2⟩ := R.pin p hp'
    refine ⟨e1, ?_⟩
    by_cases hi : p.1 ∈ is
    · obtain ⟨_, ys, _, _, _, e3, _⟩ := inn p.1 p.2 hi e1
      exact ⟨ys, e3⟩
    · exact ⟨xs, by rw [upHot_out is outs ρ p.1 hi]; exact e2⟩
  · obtain ⟨e1, e2, e3, e4⟩ := R.gds g hg
    obtain ⟨f1, _, f3⟩ := x.fr g.1 _ e2 e1
    refine ⟨f1, f3 (fun hb => ?_) (fun _ z => (by cases z)), e3, fun j zs q => ?_⟩
    · obtain ⟨j, _, ej, ys, ey⟩ := ofAs g.1 hb
      exact e4 j ys ey ej
    · obtain ⟨z1, y1⟩ := old j zs q
      exact e4 j z1 y1

inductive AEnt where
  | d (x : PyData)
  | h (i : Nat)
inductive FO where
  | rt (d : Rv) (outs : List (List PyData))
  | ex (c : Str) (w : PyData) (outs : List (List PyData))
  | bad
def argOk (K : PySem.W.Frag) (σ : L2.St) (C : Hp) (v : V) : AEnt → Prop
  | .d x => Dp K C v x
  | .h i => σ[i]? = some (some v)
def RelA (X : Cx) (n : Nat) : L2.St → Hp → List V → List AEnt → Prop := fun σ C vs as => Paired (argOk KD σ C) vs as ∧ as.length = n
def DArgs (X : Cx) (W : WX) (P : Pn) (m : Mi (List AEnt)) (es : List Expr) : Prop := ∀ F : Fr0, FOk F P → PA X es (tM X F W (RelA X es.length) m)
def aNil : Mi (List AEnt) := Mi.ret []
def aVal (m : Mi PyData) (ms : Mi (List AEnt)) : Mi (List AEnt) := m.bind fun d => ms.bind fun as => Mi.ret (.d d :: as)
def aHot (i : Nat) (ms : Mi (List AEnt)) : Mi (List AEnt) := fun r => match hotOf r i with
  | some _ => (ms.bind fun as => Mi.ret (.h i :: as)) r
  | none => .bad
theorem argMono {K : PySem.W.Frag} {σ : L2.St} {C C' : Hp} (s : Same C C') {v : V} {a : AEnt} (h : argOk K σ C v a) : argOk K σ C' v a := by
  cases a with
  | d x => exact dpMono s h
  | h i => exact h
section
variable {X : Cx} {W : WX} {P : Pn} {a b c e : Expr} {es : List Expr} {ma mb mc : Mi PyData} {pos : Pos}
theorem agNil : DArgs X W P aNil [] := fun F _ => paImp pa_nil fun σ H Q ⟨C, ρ, R, h⟩ => poRet h R ⟨.nil, rfl⟩
theorem agVal {ms : Mi (List AEnt)} (ha : DE X W P ma a) (hr : DArgs X W P ms es) (hs : starEach (a :: es) X.env = (false, eval a X.env) :: starEach es X.env := by rfl) : DArgs X W P (aVal ma ms) (a :: es) :=
  fun F hF => paImp (pa_cons (ha F hF) (hr F hF) hs) fun σ H Q ⟨C, ρ, R, h⟩ => by
    refine ⟨C, ρ, R, (poBind h).imp fun x H1 ⟨C1, ρ1, d, s1, R1, d1, h1⟩ => ⟨C1, ρ1, R1, (poBind h1).imp fun xs H2 ⟨C2, ρ2, ds, s2, R2, d2, h2⟩ => ?_⟩⟩
    exact poRet h2 R2 ⟨.cons (dpMono s2 d1) d2.1, congrArg (· + 1) d2.2⟩
theorem agHot {i : Nat} {x : Str} {p : Pos} {ms : Mi (List AEnt)} (hv : PE X (.Name x p) (tVar i)) (hr : DArgs X W P ms es) (hs : starEach ((.Name x p) :: es) X.env = (false, eval (.Name x p) X.env) :: starEach es X.env := by rfl) : DArgs X W P (aHot i ms) ((.Name x p) :: es) :=
  fun F hF => paImp (pa_cons hv (hr F hF) hs) fun σ H Q ⟨C, ρ, R, h⟩ => by
    unfold aHot at h
    cases e1 : hotOf ρ i with
    | none =>
      rw [e1] at h
      exact h.elim
    | some xs =>
      rw [e1] at h
      obtain ⟨ad, vs, ea, _⟩ := R.hotAt (hotOf_eq e1)
      refine ⟨.ref ad, ea, C, ρ, R, (poBind h).imp fun us H2 ⟨C2, ρ2, ds, s2, R2, d2, h2⟩ => ?_⟩
      exact poRet h2 R2 ⟨.cons ea d2.1, congrArg (· + 1) d2.2⟩
end
def entsOf : List AEnt → Rho → Option (List Ent)
  | [], _ => some []
  | .d x :: as, r => (entsOf as r).map (Ent.val x :: ·)
  | .h i :: as, r => match hotOf r i with
    | some xs => (entsOf as r).map (Ent.hot xs :: ·)
    | none => none
def hix : List AEnt → List Nat
  | [] => []
  | .d _ :: as => hix as
  | .h i :: as => i :: hix as
def hotAd : List V → List Ent → List Addr
  | v :: vs, .hot _ :: es => match v with
    | .ref a => a :: hotAd vs es
    | _ => hotAd vs es
  | _ :: vs, .val _ :: es => hotAd vs es
  | _, _ => []
def spM (T : List (Addr × Str)) (mg : Str → Option Value) (n : Nat) (fm : List Ent → FO) : Sp := fun vs H Q E => vs.length = n ∧ ∃ C es, Same C H ∧ LamX.Tabs T H ∧ (∀ (b : Addr) (ps : Array Value), C b ≠ some (.tbl ps)) ∧ Paired (slotOk KD C H) vs es ∧ (hotAd vs es).Nodup ∧ match fm es with
  | .rt d outs => ∀ v C' H', CallExt KD T C H C' H' (hotAd vs es) outs → RvOk H C' H' v d → Q v H'
  | .ex c w outs => ∀ A dd v C' H', mg c = some (.ref A) → CallExt KD T C H C' H' (hotAd vs es) outs → C' dd = some (xw dd v) → Dp KD C' v w → E (.ref A) (some dd) H'
  | .bad => False
def mCall (fm : List Ent → FO) (ms : Mi (List AEnt)) : Mi PyData := ms.bind fun as r => match entsOf as r with
  | none => .bad
  | some es => if (hix as).Nodup then (match fm es with
      | .rt (.cold d) outs => .ok d (upHot r (hix as) outs)
      | .rt (.fresh ds) outs => .ok (.list ds) (upHot r (hix as) outs)
      | .ex c w outs => .ex c w (upHot r (hix as) outs)
      | .bad => .bad) else .bad
/-- a def of the program: where it stands, what it is worth -/
structure Dfn (Pg : Program) (w : World) (K : PySem.W.Frag) (mg : Str → Option Value) (base : Heap) (T : List (Addr × Str)) (k : Nat) (x : Str) (n : Nat) (fm : List Ent → FO) : Prop where
  ex : ∃ (f : Addr) (fd : FuncData) (ps : List Str), mg x = some (.ref f) ∧ PySem.W.keepIn K (.ref f) = true ∧ Binds K fd ps [] ∧ FnG Pg w K mg base k f fd ps (spM T mg n fm)
theorem entsOk {K : PySem.W.Frag} {F : Fr0} {C H : Hp} {σ : L2.St} {ρ : Rho} (R : RE K F C σ H ρ) : ∀ {vs : List V} {as : List AEnt} {es : List Ent}, Paired (argOk K σ C) vs as → entsOf as ρ = some es →
    Paired (slotOk K C H) vs es ∧ Paired (fun (i : Nat) (a : Addr) => σ[i]? = some (some (.ref a)) ∧ ∃ xs, ρ[i]? = some (some (.hot xs))) (hix as) (hotAd vs es)
  | _, _, _, .nil, e => by
    simp only [entsOf, Option.some.injEq] at e
    subst e
    exact ⟨.nil, .nil⟩
  | _, .d x :: as, es, .cons (a := v) (l₁ := vs) r t, e => by
    simp only [entsOf, Option.map_eq_some_iff] at e
    obtain ⟨es', e1, rfl⟩ := e
    obtain ⟨h1, h2⟩ := entsOk R t e1
    refine ⟨.cons r h1, ?_⟩
    show Paired _ (hix as) (hotAd (v :: vs) (.val x :: es'))
    unfold hotAd
    exact h2
  | _, .h i :: as, es, .cons (a := v) (l₁ := vs) r t, e => by
    unfold entsOf at e
    cases e0 : hotOf ρ i with
    | none =>
      rw [e0] at e
      cases e
    | some xs =>
      rw [e0] at e
      simp only [Option.map_eq_some_iff] at e
      obtain ⟨es', e1, rfl⟩ := e
      obtain ⟨h1, h2⟩ := entsOk R t e1
      obtain ⟨ad, ws, ea, g1, g2, g3⟩ := R.hotAt (hotOf_eq e0)
      have r' : σ[i]? = some (some v) := r
      rw [ea] at r'
      cases r'
      refine ⟨.cons ⟨ad, ws, rfl, g1, g2, g3⟩ h1, ?_⟩
      show Paired _ (i :: hix as) (ad :: hotAd vs es')
      exact .cons ⟨ea, xs, hotOf_eq e0⟩ h2
theorem nodupAd {K : PySem.W.Frag} {F : Fr0} {C H : Hp} {σ : L2.St} {ρ : Rho} (R : RE K F C σ H ρ) : ∀ {is : List Nat} {as : List Addr}, Paired (fun (i : Nat) (a : Addr) => σ[i]? = some (some (.ref a)) ∧ ∃ xs, ρ[i]? = some (some (.hot xs))) is as → is.Nodup → as.Nodup
  | _, _, .nil, _ => List.nodup_nil
  | _, _, .cons (a := i) (b := a) (l₁ := is) (l₂ := as) r t, nd => by
    have n := List.nodup_cons.mp nd
    refine List.nodup_cons.mpr ⟨fun ha => ?_, nodupAd R t n.2⟩
    obtain ⟨k, hk, ek⟩ := List.getElem_of_mem ha
    obtain ⟨j, e1, e2, ys, e3⟩ := pairGet2 t (k := k) (y := a) (by rw [List.getElem?_eq_getElem hk, ek])
    obtain ⟨r1, xs, r2⟩ := r
    have z := R.inj i j xs ys a r2 e3 r1 e2
    subst z
    exact n.1 (List.mem_of_getElem? e1)
/-- what comes back from a call, looked at as a value -/
def rvD : Rv → PyData
  | .cold d => d
  | .fresh ds => .list ds
theorem callBack {X : Cx} {F : Fr0} {W : WX} {C1 H1 : Hp} {σ : L2.St} {ρ1 : Rho} {is : List Nat} {as : List Addr} {d : Rv} {outs : List (List PyData)} {Q : VK} (R1 : RE KD F C1 σ H1 ρ1) (nd : is.Nodup) (g2 : Paired (fun (i : Nat) (a : Addr) => σ[i]? = some (some (.ref a)) ∧ ∃ xs, ρ1[i]? = some (some (.hot xs))) is as)
    (h : Po X F W (RelD X) C1 σ Q (match d with
      | .cold x => .ok x (upHot ρ1 is outs)
      | .fresh ds => .ok (.list ds) (upHot ρ1 is outs))) : ∀ v C' H', CallExt KD F.tb C1 H1 C' H' as outs → RvOk H1 C' H' v d → Q v H' := by
  intro v C' H' cx dv
  have R2 := R1.call cx nd g2
  cases d with
  | cold x => exact h v C' H' cx.cc R2 dv
  | fresh ds =>
    obtain ⟨p, ws, rfl, hn, hh, hd, h0⟩ := dv
    have old : ∀ (j : Nat) (zs : List PyData), (upHot ρ1 is outs)[j]? = some (some (.hot zs)) → ∃ ys, ρ1[j]? = some (some (.hot ys)) := fun j zs z => by
      by_cases hj : j ∈ is
      · obtain ⟨k, hk, ek⟩ := List.getElem_of_mem hj
        obtain ⟨a, _, _, ys, e⟩ := pairGet g2 (k := k) (x := j) (by rw [List.getElem?_eq_getElem hk, ek])
        exact ⟨ys, e⟩
      · rw [upHot_out is outs ρ1 j hj] at z
        exact ⟨zs, z⟩
    have R3 := R2.cool hn hh (fun j zs z y => by
      obtain ⟨ys, e⟩ := old j zs z
      exact R1.hotNe h0 j ys e y) (R1.h0None h0) (R1.gdNe h0)
    exact h _ _ H' (cx.cc.trans (sameUpd hn)) R3 (.lst (.inl (.inl upd_same)) (dpaMono (sameUpd hn) hd))
theorem deCall {X : Cx} {W : WX} {P : Pn} {e : Expr} {es : List Expr} {ms : Mi (List AEnt)} {fm : List Ent → FO} {k n : Nat} {x : Str} {p pos : Pos} (D : Dfn X.prog X.w X.K X.mg X.base P.tb k x n fm) (hG : X.A.guards = some []) (hr : Room k X.A) (tk : Takes X W) (ha : DArgs X W P ms (e :: es))
    (hg : Gl X x) (hn : (e :: es).length = n := by rfl) (hdb : (x == ("__debug__" : Str)) = false := by decide) (he : starEach (e :: es) X.env = (false, eval e X.env) :: starEach es X.env := by rfl) (hpl : (backTo pos (starEach es X.env)).any (·.1) = false := by rfl) :
    DE X W P (mCall fm ms) (.Call (.Name x p) (e :: es) [] pos) := fun F hF => by
  obtain ⟨f, fd, ps, hm, hk, hb, FN⟩ := D.ex
  refine peImp (pe_callG FN hG hr hg hm hk hb (fun σ => passAt tk σ) (ha F hF) hdb he hpl) fun σ H Q ⟨C, ρ, R, h⟩ => ⟨C, ρ, R, (poBind h).imp fun vs H1 ⟨C1, ρ1, as, s1, R1, d1, h1⟩ => ?_⟩
  obtain ⟨d1, d2⟩ := d1
  cases e1 : entsOf as ρ1 with
  | none =>
    simp only [e1] at h1
    exact h1.elim
  | some ens =>
    simp only [e1] at h1
    obtain ⟨g1, g2⟩ := entsOk R1 d1 e1
    by_cases nd : (hix as).Nodup
    · simp only [if_pos nd] at h1
      have etb : F.tb = P.tb := hF.2.1
      refine ⟨(pairLen d1).trans (d2.trans hn), C1, ens, R1.ch, by rw [← etb]; exact R1.tabs, R1.tabC, g1, nodupAd R1 g2 nd, ?_⟩
      rw [← etb]
      cases ef : fm ens with
      | rt d outs =>
        simp only [ef] at h1
        exact callBack (W := W) (X := X) R1 nd g2 (by cases d <;> exact h1)
      | ex c w outs =>
        simp only [ef] at h1
        exact fun A dd v C' H' hm cx q1 q2 => h1 A dd v C' H' hm cx.cc (R1.call cx nd g2) q1 q2
      | bad =>
        simp only [ef] at h1
        exact h1
    · simp only [if_neg nd] at h1
      exact h1.elim

/-- the call of a def that returns a new list -/
def mCallF (fm : List Ent → FO) (ms : Mi (List AEnt)) : Mi (List PyData) := ms.bind fun as r => match entsOf as r with
  | none => .bad
  | some es => if (hix as).Nodup then (match fm es with
      | .rt (.fresh ds) outs => .ok ds (upHot r (hix as) outs)
      | .rt (.cold _) _ => .bad
      | .ex c w outs => .ex c w (upHot r (hix as) outs)
      | .bad => .bad) else .bad
theorem dfCall {X : Cx} {W : WX} {P : Pn} {e : Expr} {es : List Expr} {ms : Mi (List AEnt)} {fm : List Ent → FO} {k n : Nat} {x : Str} {p pos : Pos} (D : Dfn X.prog X.w X.K X.mg X.base P.tb k x n fm) (hG : X.A.guards = some []) (hr : Room k X.A) (tk : Takes X W) (ha : DArgs X W P ms (e :: es))
    (hg : Gl X x) (hn : (e :: es).length = n := by rfl) (hdb : (x == ("__debug__" : Str)) = false := by decide) (he : starEach (e :: es) X.env = (false, eval e X.env) :: starEach es X.env := by rfl) (hpl : (backTo pos (starEach es X.env)).any (·.1) = false := by rfl) :
    DF X W P (mCallF fm ms) (.Call (.Name x p) (e :: es) [] pos) := fun F hF => by
  obtain ⟨f, fd, ps, hm, hk, hb, FN⟩ := D.ex
  refine peImp (pe_callG FN hG hr hg hm hk hb (fun σ => passAt tk σ) (ha F hF) hdb he hpl) fun σ H Q ⟨C, ρ, R, h⟩ => ⟨C, ρ, R, ?_⟩
  unfold mCallF Mi.bind at h
  cases ea : ms ρ with
  | ex c w r =>
    rw [ea] at h
    exact h
  | bad =>
    rw [ea] at h
    exact h
  | ok as r =>
    rw [ea] at h
    intro vs C1 H1 s1 R1 d1
    obtain ⟨d1, d2⟩ := d1
    simp only at h
    cases e1 : entsOf as r with
    | none =>
      simp only [e1] at h
      exact h.elim
    | some ens =>
      simp only [e1] at h
      obtain ⟨g1, g2⟩ := entsOk R1 d1 e1
      by_cases nd : (hix as).Nodup
      · simp only [if_pos nd] at h
        have etb : F.tb = P.tb := hF.2.1
        refine ⟨(pairLen d1).trans (d2.trans hn), C1, ens, R1.ch, by rw [← etb]; exact R1.tabs, R1.tabC, g1, nodupAd R1 g2 nd, ?_⟩
        rw [← etb]
        cases ef : fm ens with
        | rt d outs =>
          simp only [ef] at h
          intro v C' H' cx dv
          cases d with
          | cold x => exact h.elim
          | fresh ds =>
            obtain ⟨q, ws, rfl, hn', hh, hd, h0⟩ := dv
            refine h q ws C' H' (s1.trans cx.cc) (R1.call cx nd g2) hn' hh hd (fun j zs z y => ?_) (R1.h0None h0) (R1.gdNe h0)
            by_cases hj : j ∈ hix as
            · obtain ⟨k, hk, ek⟩ := List.getElem_of_mem hj
              obtain ⟨a, _, _, ys, e⟩ := pairGet g2 (k := k) (x := j) (by rw [List.getElem?_eq_getElem hk, ek])
              exact R1.hotNe h0 j ys e y
            · rw [upHot_out (hix as) outs r j hj] at z
              exact R1.hotNe h0 j zs z y
        | ex c w outs =>
          simp only [ef] at h
          exact fun A dd v C' H' hm cx q1 q2 => h A dd v C' H' hm (s1.trans cx.cc) (R1.call cx nd g2) q1 q2
        | bad =>
          simp only [ef] at h
          exact h
      · simp only [if_neg nd] at h
        exact h.elim

/-! ### a def keeps its promise -/
def hotIdx : Nat → List Ent → List Nat
  | _, [] => []
  | k, .val _ :: es => hotIdx (k + 1) es
  | k, .hot _ :: es => k :: hotIdx (k + 1) es
def outsOf (r : Rho) (P : List Nat) : List (List PyData) := P.map fun i => (hotOf r i).getD []
def rho0 (n : Nat) (es : List Ent) : Rho := es.map some ++ List.replicate (n - es.length) none
def fnM (body : Rho → Fl) (n : Nat) (P : List Nat) : List Ent → FO := fun es => if hotIdx 0 es = P then (match body (rho0 n es) with
  | .nx r => .rt (.cold .none) (outsOf r P)
  | .rt d r => .rt d (outsOf r P)
  | .ex c w r => .ex c w (outsOf r P)
  | _ => .bad) else .bad
theorem hotPairs {K : PySem.W.Frag} {C H : Hp} : ∀ {vs : List V} {es : List Ent} (k : Nat), Paired (slotOk K C H) vs es → Paired (fun (i : Nat) (a : Addr) => k ≤ i ∧ vs[i - k]? = some (.ref a) ∧ ∃ xs, es[i - k]? = some (.hot xs)) (hotIdx k es) (hotAd vs es)
  | _, _, _, .nil => .nil
  | v :: vs, .val d :: es, k, .cons r t => by
    unfold hotIdx hotAd
    refine pairImp (fun i a ⟨h1, h2, xs, h3⟩ => ?_) (hotPairs (k + 1) t)
    obtain ⟨j, rfl⟩ : ∃ j, i = k + 1 + j := ⟨i - (k + 1), by omega⟩
    have e1 : k + 1 + j - k = j + 1 := by omega
    have e2 : k + 1 + j - (k + 1) = j := by omega
    rw [e2] at h2 h3
    rw [e1]
    exact ⟨by omega, by simpa using h2, xs, by simpa using h3⟩
  | v :: vs, .hot ys :: es, k, .cons r t => by
    obtain ⟨a, ws, rfl, _⟩ := r
    unfold hotIdx hotAd
    refine .cons ⟨Nat.le_refl _, by simp, ys, by simp⟩ (pairImp (fun i a ⟨h1, h2, xs, h3⟩ => ?_) (hotPairs (k + 1) t))
    obtain ⟨j, rfl⟩ : ∃ j, i = k + 1 + j := ⟨i - (k + 1), by omega⟩
    have e1 : k + 1 + j - k = j + 1 := by omega
    have e2 : k + 1 + j - (k + 1) = j := by omega
    rw [e2] at h2 h3
    rw [e1]
    exact ⟨by omega, by simpa using h2, xs, by simpa using h3⟩
theorem hotIn {K : PySem.W.Frag} {C H : Hp} {vs : List V} {es : List Ent} (hp : Paired (slotOk K C H) vs es) {i : Nat} {xs : List PyData} (h : es[i]? = some (.hot xs)) : i ∈ hotIdx 0 es := by
  have go : ∀ (es : List Ent) (k i : Nat), es[i]? = some (.hot xs) → k + i ∈ hotIdx k es := by
    intro es
    induction es with
    | nil =>
      intro k i h
      simp at h
    | cons e es ih =>
      intro k i h
      cases i with
      | zero =>
        have e1 : e = .hot xs := by simpa using h
        subst e1
        exact List.mem_cons_self
      | succ i =>
        have z := ih (k + 1) i (by simpa using h)
        have e2 : k + 1 + i = k + (i + 1) := by omega
        rw [e2] at z
        cases e with
        | val d => exact z
        | hot ys => exact List.mem_cons_of_mem _ z
  simpa using go es 0 i h
theorem zipFst {α β : Type} {R : α → β → Prop} : ∀ {xs : List α} {ys : List β}, Paired R xs ys → (xs.zip ys).map (·.1) = xs
  | _, _, .nil => rfl
  | _, _, .cons _ t => congrArg (_ :: ·) (zipFst t)
theorem zipSnd {α β : Type} {R : α → β → Prop} : ∀ {xs : List α} {ys : List β}, Paired R xs ys → (xs.zip ys).map (·.2) = ys
  | _, _, .nil => rfl
  | _, _, .cons _ t => congrArg (_ :: ·) (zipSnd t)
theorem pairZip {α β : Type} {R : α → β → Prop} : ∀ {xs : List α} {ys : List β}, Paired R xs ys → ∀ p ∈ xs.zip ys, R p.1 p.2
  | _, _, .nil, _, h => by simp at h
  | _, _, .cons r t, p, h => by
    rw [List.zip_cons_cons] at h
    rcases List.mem_cons.mp h with rfl | h
    · exact r
    · exact pairZip t p h
theorem pairOf {α β γ : Type} {R : α → β → Prop} {S : β → γ → Prop} {f : α → γ} (h : ∀ x y, R x y → S y (f x)) : ∀ {xs : List α} {ys : List β}, Paired R xs ys → Paired S ys (xs.map f)
  | _, _, .nil => .nil
  | _, _, .cons r t => .cons (h _ _ r) (pairOf h t)
theorem pairMem {α β : Type} {R S : α → β → Prop} : ∀ {xs : List α} {ys : List β}, Paired R xs ys → (∀ p ∈ xs.zip ys, S p.1 p.2) → Paired S xs ys
  | _, _, .nil, _ => .nil
  | _, _, .cons r t, h => .cons (h (_, _) (by rw [List.zip_cons_cons]; exact List.mem_cons_self)) (pairMem t fun p hp => h p (by rw [List.zip_cons_cons]; exact List.mem_cons_of_mem _ hp))

section
variable {Pg : Program} {w : World} {K : PySem.W.Frag} {mg : Str → Option Value} {base : Heap}
theorem nodupPair {α β : Type} {R : α → β → Prop} : ∀ {xs : List α} {ys : List β} {i j : Nat} {y : β}, ys.Nodup → ys[i]? = some y → ys[j]? = some y → i = j := fun {xs ys i j y} nd h1 h2 => nd_ix nd h1 h2
/-- the slots at a def's entry -/
theorem start_RE {T : List (Addr × Str)} {N : List Str} {vs : List V} {es : List Ent} {C H : Hp} (hs : Same C H) (hT : LamX.Tabs T H) (hTC : ∀ (b : Addr) (ps : Array Value), C b ≠ some (.tbl ps)) (hp : Paired (slotOk KD C H) vs es) (nd : (hotAd vs es).Nodup) (hl : vs.length ≤ N.length) :
    RE KD ⟨C, H, (hotIdx 0 es).zip (hotAd vs es), [], T, [], fun _ => none⟩ C (L2.start N vs) H (rho0 N.length es) := by
  have hlen := pairLen hp
  have HP := hotPairs 0 hp
  have at_ : ∀ (i : Nat) (e : Ent), (rho0 N.length es)[i]? = some (some e) → es[i]? = some e := fun i e h => by
    unfold rho0 at h
    by_cases hi : i < es.length
    · rw [List.getElem?_append_left (by simpa using hi)] at h
      simpa using h
    · rw [List.getElem?_append_right (by simpa using hi)] at h
      have z := List.mem_of_getElem? h
      simp at z
  have st_ : ∀ (i : Nat) (v : V), vs[i]? = some v → (L2.start N vs)[i]? = some (some v) := fun i v h => by
    unfold L2.start
    have hi : i < vs.length := (List.getElem?_eq_some_iff.mp h).1
    rw [List.getElem?_append_left (by simpa using hi)]
    simp [h]
  have st2 : ∀ (i : Nat) (v : V), (L2.start N vs)[i]? = some (some v) → vs[i]? = some v := fun i v h => by
    unfold L2.start at h
    by_cases hi : i < vs.length
    · rw [List.getElem?_append_left (by simpa using hi)] at h
      simpa using h
    · rw [List.getElem?_append_right (by simpa using hi)] at h
      have z := List.mem_of_getElem? h
      simp at z
  have rh_ : ∀ (i : Nat) (e : Ent), es[i]? = some e → (rho0 N.length es)[i]? = some (some e) := fun i e h => by
    unfold rho0
    have hi : i < es.length := (List.getElem?_eq_some_iff.mp h).1
    rw [List.getElem?_append_left (by simpa using hi)]
    simp [h]
  have inn : ∀ (i : Nat) (xs : List PyData) (a : Addr), (rho0 N.length es)[i]? = some (some (.hot xs)) → (L2.start N vs)[i]? = some (some (.ref a)) → ∃ k, (hotIdx 0 es)[k]? = some i ∧ (hotAd vs es)[k]? = some a := fun i xs a h1 h2 => by
    have m := hotIn hp (at_ i _ h1)
    obtain ⟨k, hk, ek⟩ := List.getElem_of_mem m
    obtain ⟨a', e1, _, e2, _⟩ := pairGet HP (k := k) (x := i) (by rw [List.getElem?_eq_getElem hk, ek])
    have e3 := st2 i _ h2
    simp only [Nat.sub_zero] at e2
    rw [e2] at e3
    cases e3
    exact ⟨k, by rw [List.getElem?_eq_getElem hk, ek], e1⟩
  refine ⟨Same.refl _, hs, fun b o h1 h2 => ⟨h2, ⟨o, h1⟩, fun _ _ => h1⟩, fun i e h => ?_, fun i j xs ys a h1 h2 h3 h4 => ?_, fun i xs a h1 h2 => ?_, fun p hp' => ?_, ?_, fun q hq => (by cases hq), hT, hTC, fun q hq => (by cases hq), fun _ _ z => (by cases z)⟩
  · obtain ⟨v, e1, e2⟩ := pairGet2 hp (at_ i e h)
    exact ⟨v, st_ i v e1, e2⟩
  · obtain ⟨k, e1, e2⟩ := inn i xs a h1 h3
    obtain ⟨k', e3, e4⟩ := inn j ys a h2 h4
    have z : k = k' := nd_ix nd e2 e4
    subst z
    rw [e1] at e3
    exact Option.some.inj e3
  · obtain ⟨k, e1, e2⟩ := inn i xs a h1 h2
    refine .inl ?_
    have e3 : ((hotIdx 0 es).zip (hotAd vs es))[k]? = some (i, a) := by
      rw [List.getElem?_zip_eq_some]
      exact ⟨e1, e2⟩
    exact List.mem_of_getElem? e3
  · obtain ⟨_, e1, xs, e2⟩ := pairZip HP p hp'
    simp only [Nat.sub_zero] at e1 e2
    exact ⟨st_ _ _ e1, xs, rh_ _ _ e2⟩
  · unfold L2.start rho0
    simp [hlen]
theorem end_Call {T : List (Addr × Str)} {F : Fr0} {C H C' H' : Hp} {σ : L2.St} {r : Rho} {P : List Nat} {as : List Addr} (hF : F = ⟨C, H, P.zip as, [], T, [], fun _ => none⟩) (hl : P.length = as.length) (R : RE KD F C' σ H' r) : CallExt KD T C H C' H' as (outsOf r P) := by
  subst hF
  have HP : Paired (fun (_ : Nat) (_ : Addr) => True) P as := by
    have go : ∀ (xs : List Nat) (ys : List Addr), xs.length = ys.length → Paired (fun (_ : Nat) (_ : Addr) => True) xs ys := by
      intro xs
      induction xs with
      | nil =>
        intro ys h
        cases ys with
        | nil => exact .nil
        | cons _ _ => simp at h
      | cons x xs ih =>
        intro ys h
        cases ys with
        | nil => simp at h
        | cons y ys => exact .cons trivial (ih ys (by simpa using h))
    exact go P as hl
  refine ⟨R.c0, R.ch, fun b o h1 h2 => ?_, R.tabs, R.tabC, ?_⟩
  · obtain ⟨e1, e2, e3⟩ := R.fr b o h1 h2
    refine ⟨e1, e2, fun nb nt => e3 (fun p hp z => nb ?_) nt⟩
    rw [← z]
    exact (List.of_mem_zip (a := p.1) (b := p.2) hp).2
  · have P2 : Paired (fun (i : Nat) (a : Addr) => (i, a) ∈ P.zip as) P as := pairMem HP fun p hp => hp
    refine pairOf (R := fun (i : Nat) (a : Addr) => (i, a) ∈ P.zip as) (f := fun i => (hotOf r i).getD []) (fun i a hm => ?_) P2
    obtain ⟨e1, xs, e2⟩ := R.pin (i, a) hm
    obtain ⟨a', ws, g1, _, g2, g3⟩ := R.hotAt e2
    have g1' : some (some (V.ref a)) = some (some (V.ref a')) := e1.symm.trans g1
    cases g1'
    have eh : hotOf r i = some xs := by
      unfold hotOf
      have e2' : r[i]? = some (some (.hot xs)) := e2
      rw [e2']
    exact ⟨ws, g2, by rw [eh]; exact g3⟩
theorem coreFn {N : List Str} {n : Nat} {P : List Nat} {T : List (Addr × Str)} {body : Rho → Fl} {qual : Str} {sc : Scope} {bd : List Stmt} {f : Addr} {cdv : Value} {A : Around} {outer : List Env} {s : Shared} {H : Hp} {E : XK} {vs : List V} {Q : VK} (hle : n ≤ N.length)
    (hD : DSs (cxOf (L2.CX Pg w) Pg w K mg base N qual sc f cdv A outer s H E) (fun cls d _ H' => E cls d H') ⟨P, T, fun _ => True⟩ body bd) (h : spM T mg n (fnM body N.length P) vs H Q E) :
    ∃ t, PSs (cxOf (L2.CX Pg w) Pg w K mg base N qual sc f cdv A outer s H E) bd t ∧ t { nx := fun _ H' => Q .non H', rt := Q } (L2.start N vs) H := by
  obtain ⟨hl, C, es, hs, hT, hTC, hp, nd, h⟩ := h
  unfold fnM at h
  by_cases hP : hotIdx 0 es = P
  · rw [if_pos hP] at h
    have HP := hotPairs 0 hp
    have hlen : P.length = (hotAd vs es).length := by
      rw [← hP]
      exact pairLen HP
    refine ⟨_, hD ⟨C, H, P.zip (hotAd vs es), [], T, [], fun _ => none⟩ ⟨by rw [← hP]; simpa using zipFst HP, rfl, trivial⟩, C, rho0 N.length es, ?_, ?_⟩
    · have z := start_RE (N := N) hs hT hTC hp nd (by omega)
      rw [hP] at z
      exact z
    · cases eb : body (rho0 N.length es) with
      | nx r =>
        rw [eb] at h
        exact fun σ' C' H' _ R' => h .non C' H' (end_Call rfl hlen R') .non
      | rt d r =>
        rw [eb] at h
        exact fun v σ' C' H' _ R' dv => h v C' H' (end_Call rfl hlen R') dv
      | ex c w r =>
        rw [eb] at h
        exact fun σ' A' d v C' H' hm _ R' q1 q2 => h A' d v C' H' hm (end_Call rfl hlen R') q1 q2
      | bk r =>
        rw [eb] at h
        exact h.elim
      | ct r =>
        rw [eb] at h
        exact h.elim
      | bad =>
        rw [eb] at h
        exact h.elim
  · rw [if_neg hP] at h
    exact h.elim
theorem dfnFn {x qual : Str} {st : Stmt} {f : Addr} {fd : FuncData} {N ps : List Str} {k : Nat} {P : List Nat} {T : List (Addr × Str)} {body : Rho → Fl} (FF : Fun K x qual st f fd) (S : FnScope N ps (defScope st)) (hle : ps.length ≤ N.length)
    (hbody : ∀ (cdv : Value) (A : Around) (outer : List Env) (s : Shared) (H : Hp) (E : XK), A.guards = some [] → Room k (A.deeper (PyProof.Rows.envOfC qual (defScope st) s.heap.objs.size f cdv)) →
      DSs (cxOf (L2.CX Pg w) Pg w K mg base N qual (defScope st) f cdv A outer s H E) (fun cls d _ H' => E cls d H') ⟨P, T, fun _ => True⟩ body (defBody st)) : FnG Pg w K mg base (k + 1) f fd ps (spM T mg ps.length (fnM body N.length P)) := by
  refine fnG_of FF S (fun vs H Q E h => h.1) fun cdv A outer s H vs Q E hG hr h => coreFn hle (hbody cdv A outer s H E hG hr) h
theorem dfnOk {x qual : Str} {st : Stmt} {f : Addr} {fd : FuncData} {N ps : List Str} {k : Nat} {P : List Nat} {T : List (Addr × Str)} {body : Rho → Fl} (FF : Fun K x qual st f fd) (S : FnScope N ps (defScope st)) (hle : ps.length ≤ N.length)
    (hmg : mg x = some (.ref f)) (hb : Binds K fd ps [])
    (hbody : ∀ (cdv : Value) (A : Around) (outer : List Env) (s : Shared) (H : Hp) (E : XK), A.guards = some [] → Room k (A.deeper (PyProof.Rows.envOfC qual (defScope st) s.heap.objs.size f cdv)) →
      DSs (cxOf (L2.CX Pg w) Pg w K mg base N qual (defScope st) f cdv A outer s H E) (fun cls d _ H' => E cls d H') ⟨P, T, fun _ => True⟩ body (defBody st)) : Dfn Pg w K mg base T (k + 1) x ps.length (fnM body N.length P) :=
  ⟨f, fd, ps, hmg, FF.kp, hb, dfnFn FF S hle hbody⟩
end
end Dn
set_option maxHeartbeats 4000000
namespace Dn
open PySem PySem.Spec L2

/-! ## comprehensions -/
def wipeR (r : Rho) : List Nat → Rho
  | [] => r
  | v :: vs => (wipeR r vs).set v none
def restR (r r0 : Rho) : List Nat → Rho
  | [] => r
  | v :: vs => (restR r r0 vs).set v (match r0[v]? with
    | some (some (.val d)) => some (.val d)
    | _ => none)
theorem wipeR_len (r : Rho) : ∀ vs : List Nat, (wipeR r vs).length = r.length
  | [] => rfl
  | v :: vs => by
    unfold wipeR
    rw [List.length_set, wipeR_len r vs]
theorem restR_len (r r0 : Rho) : ∀ vs : List Nat, (restR r r0 vs).length = r.length
  | [] => rfl
  | v :: vs => by
    unfold restR
    rw [List.length_set, restR_len r r0 vs]
theorem wipeR_some {r : Rho} {j : Nat} {e : Ent} : ∀ {vs : List Nat}, (wipeR r vs)[j]? = some (some e) → j ∉ vs ∧ r[j]? = some (some e)
  | [], h => ⟨fun z => (by cases z), h⟩
  | v :: vs, h => by
    unfold wipeR at h
    by_cases hv : v = j
    · subst hv
      by_cases hl : v < (wipeR r vs).length
      · rw [List.getElem?_set_self hl] at h
        cases h
      · rw [List.getElem?_eq_none (by simpa using hl)] at h
        cases h
    · rw [List.getElem?_set_ne hv] at h
      obtain ⟨h1, h2⟩ := wipeR_some h
      exact ⟨fun z => (List.mem_cons.mp z).elim (fun z => hv z.symm) h1, h2⟩
theorem wipeR_out {r : Rho} {j : Nat} : ∀ {vs : List Nat}, j ∉ vs → (wipeR r vs)[j]? = r[j]?
  | [], _ => rfl
  | v :: vs, h => by
    unfold wipeR
    rw [List.getElem?_set_ne (fun e => h (by rw [e]; exact List.mem_cons_self))]
    exact wipeR_out fun z => h (List.mem_cons_of_mem _ z)
theorem restR_out {r r0 : Rho} {j : Nat} : ∀ {vs : List Nat}, j ∉ vs → (restR r r0 vs)[j]? = r[j]?
  | [], _ => rfl
  | v :: vs, h => by
    unfold restR
    rw [List.getElem?_set_ne (fun e => h (by rw [e]; exact List.mem_cons_self))]
    exact restR_out fun z => h (List.mem_cons_of_mem _ z)
theorem restR_some {r r0 : Rho} {j : Nat} {e : Ent} : ∀ {vs : List Nat}, (restR r r0 vs)[j]? = some (some e) → (∃ d, e = .val d ∧ r0[j]? = some (some (.val d))) ∨ (j ∉ vs ∧ r[j]? = some (some e))
  | [], h => .inr ⟨fun z => (by cases z), h⟩
  | v :: vs, h => by
    unfold restR at h
    by_cases hv : v = j
    · subst hv
      by_cases hl : v < (restR r r0 vs).length
      · rw [List.getElem?_set_self hl] at h
        split at h
        · rename_i d e1
          cases h
          exact .inl ⟨d, rfl, e1⟩
        · cases h
      · rw [List.getElem?_eq_none (by simpa using hl)] at h
        cases h
    · rw [List.getElem?_set_ne hv] at h
      rcases restR_some h with z | ⟨h1, h2⟩
      · exact .inl z
      · exact .inr ⟨fun z => (List.mem_cons.mp z).elim (fun z => hv z.symm) h1, h2⟩
/-- the same heap, other slots -/
theorem RE.ofPt {K : PySem.W.Frag} {F : Fr0} {C H : Hp} {σ1 σ : L2.St} {r1 r : Rho} (R : RE K F C σ1 H r1) (hl : σ.length = r.length)
    (h : ∀ (j : Nat) (e : Ent), r[j]? = some (some e) → (∃ d v, e = .val d ∧ σ[j]? = some (some v) ∧ Dp K C v d) ∨ (r1[j]? = some (some e) ∧ σ[j]? = σ1[j]?))
    (hp : ∀ p ∈ F.pp, σ[p.1]? = σ1[p.1]? ∧ r[p.1]? = r1[p.1]?) (hr : ∀ q ∈ F.rw, σ[q.1]? = σ1[q.1]?) : RE K F C σ H r := by
  have hot : ∀ (j : Nat) (zs : List PyData), r[j]? = some (some (.hot zs)) → r1[j]? = some (some (.hot zs)) ∧ σ[j]? = σ1[j]? := fun j zs e => by
    rcases h j _ e with ⟨d, v, e1, _⟩ | z
    · cases e1
    · exact z
  refine ⟨R.c0, R.ch, R.fr, fun j e hj => ?_, fun i j xs ys a q1 q2 q3 q4 => ?_, fun i xs a q1 q2 => ?_, fun p hp' => ?_, hl, fun g hg => ?_, R.tabs, R.tabC, fun q hq => (hr q hq).trans (R.raw q hq), R.bb⟩
  · rcases h j e hj with ⟨d, v, rfl, e1, e2⟩ | ⟨e1, e2⟩
    · exact ⟨v, e1, e2⟩
    · obtain ⟨v, f1, f2⟩ := R.sl j e e1
      exact ⟨v, e2.trans f1, f2⟩
  · obtain ⟨a1, a2⟩ := hot i xs q1
    obtain ⟨b1, b2⟩ := hot j ys q2
    exact R.inj i j xs ys a a1 b1 (a2.symm.trans q3) (b2.symm.trans q4)
  · obtain ⟨a1, a2⟩ := hot i xs q1
    exact R.own i xs a a1 (a2.symm.trans q2)
  · obtain ⟨e1, xs, e2⟩ := R.pin p hp'
    obtain ⟨h1, h2⟩ := hp p hp'
    exact ⟨h1.trans e1, xs, h2.trans e2⟩
  · obtain ⟨e1, e2, e3, e4⟩ := R.gds g hg
    refine ⟨e1, e2, e3, fun j zs q => ?_⟩
    obtain ⟨a1, a2⟩ := hot j zs q
    rw [a2]
    exact e4 j zs a1
section
variable {K : PySem.W.Frag} {F : Fr0} {C C' H H' : Hp} {σ : L2.St} {ρ r : Rho} {vs : List Nat}
theorem RE.wipe (R : RE K F C σ H ρ) (hv : ∀ v ∈ vs, ∀ p ∈ F.pp ++ F.rw, p.1 ≠ v) : RE K F C (L2.wipe σ vs) H (wipeR ρ vs) := by
  refine R.ofPt (by rw [wipe_length, wipeR_len]; exact R.len) (fun j e h => ?_) (fun p hp => ?_) fun q hq => wipeOut vs σ _ fun z => hv _ z q (List.mem_append_right _ hq) rfl
  · obtain ⟨h1, h2⟩ := wipeR_some h
    exact .inr ⟨h2, wipeOut vs σ j h1⟩
  · have n : p.1 ∉ vs := fun z => hv _ z p (List.mem_append_left _ hp) rfl
    exact ⟨wipeOut vs σ _ n, wipeR_out n⟩
theorem RE.unwipe (R : RE K F C' (L2.wipe σ vs) H' r) (R0 : RE K F C σ H ρ) (s : Same C C') (hv : ∀ v ∈ vs, ∀ p ∈ F.pp ++ F.rw, p.1 ≠ v) : RE K F C' σ H' (restR r ρ vs) := by
  refine R.ofPt ?_ (fun j e h => ?_) (fun p hp => ?_) fun q hq => (wipeOut vs σ _ fun z => hv _ z q (List.mem_append_right _ hq) rfl).symm
  · rw [restR_len]
    have z := R.len
    rw [wipe_length] at z
    exact z
  · rcases restR_some h with ⟨d, rfl, e1⟩ | ⟨h1, h2⟩
    · obtain ⟨v, e2, e3⟩ := R0.sl j _ e1
      exact .inl ⟨d, v, rfl, e2, dpMono s e3⟩
    · exact .inr ⟨h2, (wipeOut vs σ j h1).symm⟩
  · have n : p.1 ∉ vs := fun z => hv _ z p (List.mem_append_left _ hp) rfl
    exact ⟨(wipeOut vs σ _ n).symm, restR_out n⟩
/-- a list of one's own is guarded -/
def Fr0.put (F : Fr0) (D : Addr) (ws : List V) : Fr0 := { F with gd := (D, ws) :: F.gd }
theorem RE.guard (R : RE K F C σ H ρ) {D : Addr} (hD : H D = none) : RE K (F.put D []) C σ (upd H D (.lst [])) ρ := by
  have x : Same H (upd H D (.lst [])) := sameUpd hD
  have R2 : RE K F C σ (upd H D (.lst [])) ρ := R.grow ⟨Same.refl _, R.ch.trans x, x, fun _ _ _ z => z, fun _ _ h => h⟩
  refine ⟨R2.c0, R2.ch, R2.fr, R2.sl, R2.inj, R2.own, R2.pin, R2.len, fun g hg => ?_, R2.tabs, R2.tabC, R2.raw, R2.bb⟩
  rcases List.mem_cons.mp hg with rfl | hg
  · exact ⟨R.ch.free hD, upd_same, R.h0None hD, R.hotNe hD⟩
  · exact R2.gds g hg
theorem RE.reguard {D : Addr} {ws us : List V} (R : RE K (F.put D ws) C σ H ρ) (hg : ∀ q ∈ F.gd, q.1 ≠ D) : RE K (F.put D us) C σ (upd H D (.lst us)) ρ := by
  obtain ⟨e1, e2, e3, e4⟩ := R.gds (D, ws) List.mem_cons_self
  refine ⟨R.c0, fun b o q => ?_, fun b o q1 q2 => ?_, fun j e hj => ?_, R.inj, R.own, R.pin, R.len, fun g hg' => ?_, tabsUpd R.tabs e2, R.tabC, R.raw, R.bb⟩
  · rw [upd_ne (fun z => by subst z; rw [e1] at q; cases q)]
    exact R.ch _ _ q
  · obtain ⟨f1, ⟨o', f2⟩, f3⟩ := R.fr b o q1 q2
    have nb : b ≠ D := fun z => by
      subst z
      have e3' : F.H0 b = none := e3
      have q1' : F.H0 b = some o := q1
      rw [e3'] at q1'
      cases q1'
    exact ⟨f1, ⟨o', by rw [upd_ne nb]; exact f2⟩, fun z nt => by rw [upd_ne nb]; exact f3 z nt⟩
  · obtain ⟨v, f1, f2⟩ := R.sl j e hj
    refine ⟨v, f1, ?_⟩
    cases e with
    | val d => exact f2
    | hot zs =>
      obtain ⟨b, ys, rfl, g1, g2, g3⟩ := f2
      have nb : b ≠ D := fun z => by
        subst z
        exact e4 j zs hj f1
      exact ⟨b, ys, rfl, g1, by rw [upd_ne nb]; exact g2, g3⟩
  · rcases List.mem_cons.mp hg' with rfl | hg'
    · exact ⟨e1, upd_same, e3, e4⟩
    · obtain ⟨f1, f2, f3⟩ := R.gds g (List.mem_cons_of_mem _ hg')
      exact ⟨f1, by rw [upd_ne (hg g hg')]; exact f2, f3⟩
theorem RE.unguard {D : Addr} {ws : List V} (R : RE K (F.put D ws) C σ H ρ) : RE K F C σ H ρ :=
  ⟨R.c0, R.ch, R.fr, R.sl, R.inj, R.own, R.pin, R.len, fun g hg => R.gds g (List.mem_cons_of_mem _ hg), R.tabs, R.tabC, R.raw, R.bb⟩
end
def compL (g : PyData → Rho → Option Rho) (t : Mi Bool) (m : Mi PyData) (vs : List Nat) : List PyData → List PyData → Rho → Out (List PyData)
  | [], acc, r => .ok acc r
  | d :: ds, acc, r => match g d (wipeR r vs) with
    | none => .bad
    | some r1 => match t r1 with
      | .ok true r2 => (match m r2 with
        | .ok y r3 => if acc.length < 16777216 then compL g t m vs ds (acc ++ [y]) r3 else .bad
        | _ => .bad)
      | .ok false r2 => compL g t m vs ds acc r2
      | _ => .bad
def mComp (mi : Mi (List PyData)) (g : PyData → Rho → Option Rho) (t : Mi Bool) (m : Mi PyData) (vs : List Nat) : Mi (List PyData) := mi.bind fun ds r1 => match compL g t m vs ds [] r1 with
  | .ok acc r2 => .ok acc (restR r2 r1 vs)
  | _ => .bad
abbrev W0 : WX := fun _ _ _ _ => False
def anyF {α β : Type} (X : Cx) (P : Pn) (Rel : L2.St → Hp → β → α → Prop) (m : Mi α) : L2.St → Hp → (β → Hp → Prop) → Prop := fun σ H Q => ∃ F : Fr0, FOk F P ∧ tM X F W0 Rel m σ H Q
def anyG (X : Cx) (P : Pn) (ts : List Nat) (g : PyData → Rho → Option Rho) : TG := fun v σ H Q => ∃ F : Fr0, FOk F P ∧ tG X F ts g v σ H Q
def DTs (X : Cx) (P : Pn) (t : Mi Bool) (ifs : List Expr) : Prop := ∀ F : Fr0, FOk F P → PTs X ifs (tM X F W0 RelB t)
theorem dtsNil {X : Cx} {P : Pn} : DTs X P (Mi.ret true) [] := fun F _ => ⟨fun pins s σ H Q I ⟨C, ρ, R, p⟩ => pts_nil.run pins s σ H Q I (poRet (Rel := RelB) p R rfl)⟩
theorem dtsOne {X : Cx} {P : Pn} {t : Mi Bool} {c : Expr} (h : DT X W0 P t c) : DTs X P t [c] := fun F hF => pts_one (h F hF)
theorem compImp {X : Cx} {F : Fr0} {W : WX} {P : Pn} {ts vs : List Nat} (hPk : ∀ (F : Fr0) (D : Addr) (ws : List V), P.ok F → P.ok (F.put D ws)) (hF : FOk F P) {mi : Mi (List PyData)} {g : PyData → Rho → Option Rho} {t : Mi Bool} {m : Mi PyData} (hv : ∀ v ∈ vs, v ∉ P.ps) (hts : ∀ i ∈ ts, i ∈ vs) {σ : L2.St} {H : Hp} {Q : VK}
    (h : tF X F W (mComp mi g t m vs) σ H Q) : tLc (tI X F W mi) (anyG X P ts g) (anyF X P RelB t) (anyF X P (RelD X) m) vs σ H Q := by
  obtain ⟨C, ρ, R, p⟩ := h
  refine ⟨C, ρ, R, ?_⟩
  unfold mComp Mi.bind at p
  have hvF : ∀ v ∈ vs, ∀ p ∈ F.pp ++ F.rw, p.1 ≠ v := fun v hv' => notPin hF (hv v hv')
  cases em : mi ρ with
  | bad =>
    rw [em] at p
    exact p.elim
  | ex c w r =>
    rw [em] at p
    exact p
  | ok ds r =>
    rw [em] at p
    simp only at p
    refine ⟨ds, rfl, fun J C1 H1 s1 R1 its D hD => ?_⟩
    cases ec : compL g t m vs ds [] r with
    | bad =>
      rw [ec] at p
      exact p.elim
    | ex c w r2 =>
      rw [ec] at p
      exact p.elim
    | ok accE rE =>
      rw [ec] at p
      simp only at p
      have gne : ∀ q ∈ F.gd, q.1 ≠ D := R1.gdNe hD
      have h0D : F.H0 D = none := R1.h0None hD
      have hotD := R1.hotNe hD
      refine ⟨fun i n H2 => n + i = ds.length ∧ ∃ C2 ρ2 acc ws, Same C1 C2 ∧ RE KD (F.put D ws) C2 (wipe σ vs) H2 (wipeR ρ2 vs) ∧ DpAll KD C2 ws acc ∧ compL g t m vs (ds.drop i) acc ρ2 = .ok accE rE,
        ⟨ds.length, rfl, C1, r, [], [], Same.refl _, (R1.guard hD).wipe hvF, .nil, ec⟩, fun i n H2 hW => ?_⟩
      obtain ⟨hn, C2, ρ2, acc, ws, s2, R2, da, hc⟩ := hW
      by_cases hl : i < ds.length
      · refine .inr ⟨its.go i _ C2 H2 (List.getElem?_eq_getElem hl) s2 R2.ch, fun H' => ∃ C3 ρ3 acc ws, Same C1 C3 ∧ RE KD (F.put D ws) C3 (wipe σ vs) H' (wipeR ρ3 vs) ∧ DpAll KD C3 ws acc ∧ compL g t m vs (ds.drop (i + 1)) acc ρ3 = .ok accE rE, fun H' hN => ⟨n - 1, by omega, by omega, hN⟩, fun x H3 y => ?_⟩
        obtain ⟨C3, ex, dx⟩ := its.yld i _ C2 H2 x H3 (List.getElem?_eq_getElem hl) s2 R2.ch y
        have R3 := R2.grow ex
        rw [List.drop_eq_getElem_cons hl] at hc
        unfold compL at hc
        cases eg : g ds[i] (wipeR ρ2 vs) with
        | none =>
          rw [eg] at hc
          cases hc
        | some r1 =>
          rw [eg] at hc
          simp only at hc
          have hFp : FOk (F.put D ws) P := ⟨hF.1, hF.2.1, hPk _ _ _ hF.2.2⟩
          refine ⟨F.put D ws, hFp, C3, wipeR ρ2 vs, ds[i], R3, dx, ?_⟩
          rw [eg]
          intro σ4 C4 H4 s4 R4 w4
          have w5 : wipe σ4 vs = wipe σ vs := by
            rw [w4 vs hts]
            apply List.ext_getElem?
            intro j
            by_cases hj : j ∈ vs
            · by_cases hl2 : j < σ.length
              · rw [wipeIn vs _ j hj (by rw [wipe_length]; exact hl2), wipeIn vs _ j hj hl2]
              · rw [List.getElem?_eq_none (by rw [wipe_length, wipe_length]; simpa using hl2), List.getElem?_eq_none (by rw [wipe_length]; simpa using hl2)]
            · rw [wipeOut vs _ j hj]
          have down : ∀ {C5 H5 : Hp} {r5 : Rho} {ws5 : List V}, RE KD (F.put D ws5) C5 σ4 H5 r5 → RE KD (F.put D ws5) C5 (wipe σ vs) H5 (wipeR r5 vs) := fun R5 => by
            have z := R5.wipe (vs := vs) hvF
            rw [w5] at z
            exact z
          refine ⟨w5, F.put D ws, hFp, C4, r1, R4, ?_⟩
          cases et : t r1 with
          | bad =>
            rw [et] at hc
            cases hc
          | ex c w r2 =>
            rw [et] at hc
            cases hc
          | ok b r2 =>
            rw [et] at hc
            intro b' C5 H5 s5 R5 eb
            have eb' : b' = b := eb
            subst eb'
            cases b' with
            | false =>
              simp only at hc
              exact iteF ⟨C5, r2, acc, ws, (s2.trans ex.cc).trans (s4.trans s5), down R5, dpaMono ((ex.cc.trans s4).trans s5) da, hc⟩
            | true =>
              simp only at hc
              refine iteT ⟨F.put D ws, hFp, C5, r2, R5, ?_⟩
              cases ey : m r2 with
              | bad =>
                rw [ey] at hc
                cases hc
              | ex c w r3 =>
                rw [ey] at hc
                cases hc
              | ok yd r3 =>
                rw [ey] at hc
                simp only at hc
                intro yv C6 H6 s6 R6 dy
                by_cases ha : acc.length < 16777216
                · rw [if_pos ha] at hc
                  obtain ⟨_, g2, _⟩ := R6.gds (D, ws) List.mem_cons_self
                  refine ⟨ws, g2, by rw [dpaLen da, sizeLine_eq]; exact ha, C6, r3, acc ++ [yd], ws ++ [yv], ((s2.trans ex.cc).trans (s4.trans s5)).trans s6, down (R6.reguard gne), dpaApp (dpaMono (((ex.cc.trans s4).trans s5).trans s6) da) (.cons dy .nil), hc⟩
                · rw [if_neg ha] at hc
                  cases hc
      · have e : i = ds.length := by omega
        subst e
        refine .inl ⟨its.stop C2 H2 s2 R2.ch, ?_⟩
        rw [List.drop_length] at hc
        unfold compL at hc
        cases hc
        obtain ⟨g1, g2, g3, g4⟩ := R2.gds (D, ws) List.mem_cons_self
        have R3 : RE KD F C2 σ H2 (restR rE r vs) := by
          have z := RE.unwipe (ρ := r) (C := C1) (H := H1) R2.unguard R1 s2 hvF
          have same : restR (wipeR rE vs) r vs = restR rE r vs := by
            apply List.ext_getElem?
            intro j
            by_cases hj : j ∈ vs
            · have go : ∀ (us : List Nat) (x y : Rho), x.length = y.length → j ∈ us → (restR x r us)[j]? = (restR y r us)[j]? := by
                intro us
                induction us with
                | nil =>
                  intro x y _ h
                  cases h
                | cons u us ih =>
                  intro x y hxy h
                  unfold restR
                  by_cases hu : u = j
                  · subst hu
                    by_cases hl3 : u < y.length
                    · rw [List.getElem?_set_self (by rw [restR_len, hxy]; exact hl3), List.getElem?_set_self (by rw [restR_len]; exact hl3)]
                    · rw [List.getElem?_eq_none (by rw [List.length_set, restR_len, hxy]; simpa using hl3), List.getElem?_eq_none (by rw [List.length_set, restR_len]; simpa using hl3)]
                  · rw [List.getElem?_set_ne hu, List.getElem?_set_ne hu]
                    rcases List.mem_cons.mp h with z | z
                    · exact absurd z.symm hu
                    · exact ih x y hxy z
              exact go vs _ _ (wipeR_len _ _) hj
            · rw [restR_out hj, restR_out hj, wipeR_out hj]
          rw [same] at z
          exact z
        refine p D ws C2 H2 (s1.trans s2) R3 g1 g2 da (fun j zs q => ?_) h0D gne
        rcases restR_some q with ⟨d, e1, _⟩ | ⟨h1, h2⟩
        · cases e1
        · have q2 : (wipeR rE vs)[j]? = some (some (.hot zs)) := by
            rw [wipeR_out h1]
            exact h2
          have z := g4 j zs q2
          rw [wipeOut vs σ j h1] at z
          exact z
section
variable {X : Cx} {W : WX} {P : Pn} {ts : List Nat} {elt tg iter : Expr} {ifs : List Expr} {scope : Scope} {own : List (Str × Nat)} {pos : Pos} {mi : Mi (List PyData)} {g : PyData → Rho → Option Rho} {t : Mi Bool} {m : Mi PyData}
theorem piAny {F : Fr0} (hi : DI X W P mi tg iter) (hF : FOk F P) : PI X tg iter (tI X F W mi) := hi F hF
theorem dfComp (hc : X.calm = true) (hN : X.N.Nodup) (hi : DI X W P mi tg iter) (ok : BlkOk X.N X.env.scope scope own) (hv : ∀ v ∈ own.map (·.2), v ∉ P.ps) (hts : ∀ i ∈ ts, i ∈ own.map (·.2))
    (hg : ∀ (s : Shared) (H : Hp) (C : Addr) (cl : List (Str × Addr)) (fp : List Addr), DG (X.blk s H scope (compEnvC scope cl C X.env) fp) P ts g tg)
    (ht : ∀ (s : Shared) (H : Hp) (C : Addr) (cl : List (Str × Addr)) (fp : List Addr), DTs (X.blk s H scope (compEnvC scope cl C X.env) fp) P t ifs)
    (he : ∀ (s : Shared) (H : Hp) (C : Addr) (cl : List (Str × Addr)) (fp : List Addr), DE (X.blk s H scope (compEnvC scope cl C X.env) fp) W0 P m elt) (hs : ∀ x, foldedSetIterable iter X.env x = pure x := by intro _; rfl) (hPk : ∀ (F : Fr0) (D : Addr) (ws : List V), P.ok F → P.ok (F.put D ws) := by exact fun _ _ _ h => h) :
    DF X W P (mComp mi g t m (own.map (·.2))) (.ListComp elt [⟨tg, iter, ifs, 0⟩] scope pos) := fun F hF =>
  peImp (pe_lc (g := anyG X P ts g) (tt := anyF X P RelB t) (te := anyF X P (RelD X) m) hc hN (hi F hF) ok
    (fun s H C cl fp => ⟨fun pins s' σ H' v u Q I r ⟨F', hF', w⟩ => (hg s H C cl fp F' hF').run pins s' σ H' v u Q I r w⟩)
    (fun s H C cl fp => ⟨fun pins s' σ H' Q I ⟨F', hF', w⟩ => (ht s H C cl fp F' hF').run pins s' σ H' Q I w⟩)
    (fun s H C cl fp => ⟨fun pins s' σ H' Q I ⟨F', hF', w⟩ => (he s H C cl fp F' hF').run pins s' σ H' Q I w⟩) hs) fun σ H Q h => compImp hPk hF hv hts h
/-- y = [..] -/
def sSetF (i : Nat) (m : Mi (List PyData)) : Rho → Fl := sBind m fun ds r => .nx (r.set i (some (.val (.list ds))))
theorem dsSetComp {i : Nat} {y : Str} {py spos : Pos} (hi' : i ∉ P.ps) (hc : X.calm = true) (hN : X.N.Nodup) (hy : X.N[i]? = some y) (hyl : X.env.scope.names.lookup y = some .local)
    (hsw : swapsWith (.ListComp elt [⟨tg, iter, ifs, 0⟩] scope pos) (some (.Name y py)) spos.line X.env = pure true) (hi : DI X W P mi tg iter) (ok : BlkOk X.N X.env.scope scope own) (hv : ∀ v ∈ own.map (·.2), v ∉ P.ps) (hts : ∀ i ∈ ts, i ∈ own.map (·.2))
    (hg : ∀ (s : Shared) (H : Hp) (C : Addr) (cl : List (Str × Addr)) (fp : List Addr), DG (X.blk s H scope (compEnvC scope cl C X.env) fp) P ts g tg)
    (ht : ∀ (s : Shared) (H : Hp) (C : Addr) (cl : List (Str × Addr)) (fp : List Addr), DTs (X.blk s H scope (compEnvC scope cl C X.env) fp) P t ifs)
    (he : ∀ (s : Shared) (H : Hp) (C : Addr) (cl : List (Str × Addr)) (fp : List Addr), DE (X.blk s H scope (compEnvC scope cl C X.env) fp) W0 P m elt) (hs : ∀ x, foldedSetIterable iter X.env x = pure x := by intro _; rfl) (hPk : ∀ (F : Fr0) (D : Addr) (ws : List V), P.ok F → P.ok (F.put D ws) := by exact fun _ _ _ h => h) :
    DS X W P (sSetHot i (mComp mi g t m (own.map (·.2)))) (.Assign [.Name y py] (.ListComp elt [⟨tg, iter, ifs, 0⟩] scope pos) spos) := fun F hF =>
  psImp (ps_setLc (i := i) (g := anyG X P ts g) (tt := anyF X P RelB t) (te := anyF X P (RelD X) m) hc hN hy hyl hsw (hi F hF) ok
    (fun s H C cl fp => ⟨fun pins s' σ H' v u Q I r ⟨F', hF', w⟩ => (hg s H C cl fp F' hF').run pins s' σ H' v u Q I r w⟩)
    (fun s H C cl fp => ⟨fun pins s' σ H' Q I ⟨F', hF', w⟩ => (ht s H C cl fp F' hF').run pins s' σ H' Q I w⟩)
    (fun s H C cl fp => ⟨fun pins s' σ H' Q I ⟨F', hF', w⟩ => (he s H C cl fp F' hF').run pins s' σ H' Q I w⟩) hs) fun D σ H ⟨C, ρ, R, p⟩ => by
    refine compImp hPk hF hv hts ⟨C, ρ, R, ?_⟩
    unfold sSetHot sBind at p
    cases e : mComp mi g t m (own.map (·.2)) ρ with
    | ok ds r =>
      rw [e] at p
      exact fun q ws C' H' s1 R1 hn hh hd hx h0 hgd => p _ C' H' s1 (R1.setHot (notPin hF hi') hn hh hd hx h0 hgd)
    | ex c w r =>
      rw [e] at p
      exact p σ
    | bad =>
      rw [e] at p
      exact p
end
end Dn
set_option maxHeartbeats 4000000
namespace Dn
open PySem PySem.Spec PyProof.Rows L2

/-! ## what is done with data -/
theorem coldL {C H : Hp} {p : Addr} {vs : List V} {ds : List PyData} (sm : Same C H) (hn : H p = none) (hd : DpAll KD C vs ds) : Ext C H (upd C p (.lst vs)) (upd H p (.lst vs)) ∧ Dp KD (upd C p (.lst vs)) (.ref p) (.list ds) :=
  ⟨Ext.new sm hn, .lst (.inl (.inl upd_same)) (dpaMono (Ext.new sm hn).cc hd)⟩
theorem coldT {C H : Hp} {p : Addr} {vs : List V} {ds : List PyData} (sm : Same C H) (hn : H p = none) (hd : DpAll KD C vs ds) : Ext C H (upd C p (.tup vs)) (upd H p (.tup vs)) ∧ Dp KD (upd C p (.tup vs)) (.ref p) (.tuple ds) :=
  ⟨Ext.new sm hn, .tup (.inl (.inl upd_same)) (dpaMono (Ext.new sm hn).cc hd)⟩
theorem lineLe {n : Nat} (h : n ≤ 16777216) : n ≤ sizeLine := by rw [sizeLine_eq]; exact h
theorem rdL {X : Cx} {pins : List (Addr × Obj)} {σ : L2.St} {H : Hp} {s : Shared} {a : Addr} {xs : List V} (I : Inv X pins σ H s) (h : SqL KD H a xs) :
    xs.length ≤ sizeLine ∧ ∃ (its : List Value) (n : Nat), Vals xs its ∧ s.heap.get? a = some { cls := .type "list", data := .seq its.toArray n } := by
  rcases h with h | ⟨o, its, n, hk, _⟩
  · exact Rd.ok (P := X.prog) (w := X.w) h I.hok
  · cases hk
section
variable {X : Cx}
def fAdd : PyData → PyData → Option PyData
  | .int i, .int j => some (.int (i + j))
  | .int i, .bool k => some (.int (i + PyProof.Rows.b2i k))
  | .str x, .str y => if x.length + y.length ≤ 16777216 then some (.str (x ++ y)) else none
  | .list xs, .list ys => if xs.length + ys.length ≤ 16777216 then some (.list (xs ++ ys)) else none
  | .tuple xs, .tuple ys => if xs.length + ys.length ≤ 16777216 then some (.tuple (xs ++ ys)) else none
  | _, _ => none
theorem oAdd : OpR X (binaryOp .Add) (rD fAdd) := by
  intro pins s σ H x y v u Q I rx ry h
  obtain ⟨C, a, b, d, e, sm, da, db, q⟩ := h
  cases da with
  | int i =>
    cases db with
    | int j =>
      cases e
      exact op_add pins s σ H _ _ v u Q I rx ry ⟨i, j, rfl, rfl, q _ C H (Ext.refl sm) (.int _)⟩
    | bl k =>
      cases e
      exact op_add_ib pins s σ H _ _ v u Q I rx ry ⟨i, k, rfl, rfl, q _ C H (Ext.refl sm) (.int _)⟩
    | _ => cases e
  | str x =>
    cases db with
    | str y =>
      simp only [fAdd] at e
      split at e
      · rename_i hl
        cases e
        exact op_add_str pins s σ H _ _ v u Q I rx ry ⟨x, y, rfl, rfl, lineLe hl, q _ C H (Ext.refl sm) (.str _)⟩
      · cases e
    | _ => cases e
  | @lst a xs ds hs hd =>
    cases db with
    | @lst b ys es ht he =>
      simp only [fAdd] at e
      split at e
      · rename_i hl
        cases e
        cases rx
        cases ry
        obtain ⟨z1, its, n, r1, e1⟩ := rdL I (sm.seq hs)
        obtain ⟨z2, its2, n2, r2, e2⟩ := rdL I (sm.seq ht)
        have l1 := r1.length
        have l2 := r2.length
        have l3 := dpaLen hd
        have l4 := dpaLen he
        refine PySem.P.add_list e1 e2 ?_ (by rw [List.size_toArray, List.size_toArray]; exact lineLe (by omega))
        have ea : its.toArray ++ its2.toArray = (its ++ its2).toArray := by simp
        rw [ea]
        have hn := I.fresh
        obtain ⟨x1, x2⟩ := coldL sm hn (dpaApp hd he)
        exact ⟨.ref _, _, I.lnew (t' := s.toks) (r1.append r2) (by rw [List.length_append]; exact lineLe (by omega)), rfl, q _ _ _ x1 x2⟩
      · cases e
    | _ => cases e
  | @tup a xs ds hs hd =>
    cases db with
    | @tup b ys es ht he =>
      simp only [fAdd] at e
      split at e
      · rename_i hl
        cases e
        have l3 := dpaLen hd
        have l4 := dpaLen he
        refine op_catA pins s σ H _ _ v u Q I rx ry ⟨a, b, xs, ys, rfl, rfl, upT (sameT sm hs), upT (sameT sm ht), lineLe (by omega), fun z => ?_, fun _ z => ?_, fun _ _ p hn => ?_⟩
        · subst z
          cases hd
          exact q _ C H (Ext.refl sm) (.tup ht he)
        · subst z
          cases he
          rw [List.append_nil] at q
          exact q _ C H (Ext.refl sm) (.tup hs hd)
        · obtain ⟨x1, x2⟩ := coldT sm hn (dpaApp hd he)
          exact q _ _ _ x1 x2
      · cases e
    | _ => cases e
  | _ => cases e
def fSub : PyData → PyData → Option PyData
  | .int i, .int j => some (.int (i - j))
  | _, _ => none
theorem oSub : OpR X (binaryOp .Sub) (rD fSub) := by
  intro pins s σ H x y v u Q I rx ry h
  obtain ⟨C, a, b, d, e, sm, da, db, q⟩ := h
  cases da with
  | int i =>
    cases db with
    | int j =>
      cases e
      exact op_sub pins s σ H _ _ v u Q I rx ry ⟨i, j, rfl, rfl, q _ C H (Ext.refl sm) (.int _)⟩
    | _ => cases e
  | _ => cases e
/-- a factor between -2 ^ 64 and 2 ^ 64 -/
def fMul : PyData → PyData → Option PyData
  | .int i, .int j => if (-(2 ^ 64) < i ∧ i < 2 ^ 64) ∨ (-(2 ^ 64) < j ∧ j < 2 ^ 64) then some (.int (i * j)) else none
  | .tuple xs, .int k => if xs ≠ [] ∧ 1 ≤ k ∧ k ≤ 1000 ∧ xs.length ≤ 1000 then some (.tuple (List.replicate k.toNat xs).flatten) else none
  | _, _ => none
theorem dpaRep {K : PySem.W.Frag} {C : Hp} {vs : List V} {ds : List PyData} (h : DpAll K C vs ds) : ∀ n : Nat, DpAll K C (List.replicate n vs).flatten (List.replicate n ds).flatten
  | 0 => .nil
  | n + 1 => by
    rw [List.replicate_succ, List.replicate_succ, List.flatten_cons, List.flatten_cons]
    exact dpaApp h (dpaRep h n)
theorem mulOnce (l : Addr) (items : Array Value) (n : Nat) (dd : Option Addr) (sl : Array (Option Value)) (u : Tok) :
    Meets (Builtin.«tuple.__mul__» ⟨[.ref l, .int 1 u], []⟩) (fun _ R s => s.heap.get? l = some { cls := .type "tuple", dict := dd, data := .seq items n, slots := sl } ∧ R (.ok (.ret (Value.ref l))) s) :=
  .of_wp fun prog w A R s h => by
    obtain ⟨hp, g, d, tk, os⟩ := s
    obtain ⟨there, h⟩ := h
    have ix := AutoSeq1.idx_int
    wp_walk using wpAny_loadPart' there
    exact ⟨_, rfl, h⟩
theorem opOnce {X : Cx} {pins : List (Addr × Obj)} {s : Shared} {σ : L2.St} {H : Hp} {l : Addr} {xs : List V} {v u : Value} {Q : VK} (I : Inv X pins σ H s) (rx : RelV (.ref l) v) (ry : RelV (.int 1) u) (hT : SqT X.K H l xs) (q : Q (.ref l) H) :
    wpAny (model X.prog X.w) X.A (binaryOp .Mult v u) (EP X pins σ Q) X.xe s := by
  cases rx
  obtain ⟨t, rfl⟩ := ry
  obtain ⟨its, r, ⟨⟨cls, dd, data, sl⟩, ho, hc, n, hd⟩, hs⟩ := I.tuple hT
  dsimp only at hc hd
  subst hc hd
  exact wpAny_binaryOp_repeat_ref (T := "tuple") (U := "int") (by decide) ⟨_, ho, rfl⟩ (fun s' => typeIs_int s' 1 t) noFill_tuple_mul F.fills_int_mul F.slot_int_rmul repeat_tuple F.slot_int_index.lookup
    (call_meets F.slot_int_rmul (typeIs_int s 1 t) F.entry_int_rmul (F.args_int_rmul_2 _ _) (int_rmul_tuple 1 t l its.toArray n dd sl)
      ⟨ho, rfl, ⟨_, ho, rfl⟩, call_meets F.slot_tuple_mul ⟨_, ho, rfl⟩ F.entry_tuple_mul (F.args_tuple_mul_2 _ _) (mulOnce l its.toArray n dd sl t) ⟨ho, .ref l, H, I, rfl, q⟩⟩)
theorem oMul : OpR X (binaryOp .Mult) (rD fMul) := by
  intro pins s σ H x y v u Q I rx ry h
  obtain ⟨C, a, b, d, e, sm, da, db, q⟩ := h
  cases da with
  | int i =>
    cases db with
    | int j =>
      simp only [fMul] at e
      split at e
      · rename_i hc
        cases e
        exact op_mul pins s σ H _ _ v u Q I rx ry ⟨i, j, rfl, rfl, hc, q _ C H (Ext.refl sm) (.int _)⟩
      · cases e
    | _ => cases e
  | @tup a xs ds hs hd =>
    cases db with
    | int k =>
      simp only [fMul] at e
      split at e
      · rename_i hc
        cases e
        have l3 := dpaLen hd
        by_cases h1 : k = 1
        · subst h1
          have z : (List.replicate (1 : Int).toNat ds).flatten = ds := by simp
          rw [z] at q
          exact opOnce I rx ry (upT (sameT sm hs)) (q _ C H (Ext.refl sm) (.tup hs hd))
        refine op_repT pins s σ H _ _ v u Q I rx ry ⟨a, k, xs, rfl, rfl, upT (sameT sm hs), fun z => hc.1 ?_, by omega, hc.2.2.1, by omega, fun p hn => ?_⟩
        · subst z
          cases hd
          rfl
        · obtain ⟨x1, x2⟩ := coldT sm hn (dpaRep hd k.toNat)
          exact q _ _ _ x1 x2
      · cases e
    | _ => cases e
  | _ => cases e
def fDiv : PyData → PyData → Option PyData
  | .int i, .int j => if j ≠ 0 ∧ j.natAbs < 1073741824 then some (.int (i.fdiv j)) else none
  | _, _ => none
theorem oDiv : OpR X (binaryOp .FloorDiv) (rD fDiv) := by
  intro pins s σ H x y v u Q I rx ry h
  obtain ⟨C, a, b, d, e, sm, da, db, q⟩ := h
  cases da with
  | int i =>
    cases db with
    | int j =>
      simp only [fDiv] at e
      split at e
      · rename_i hc
        cases e
        exact op_fdivN pins s σ H _ _ v u Q I rx ry ⟨i, j, rfl, rfl, hc, q _ C H (Ext.refl sm) (.int _)⟩
      · cases e
    | _ => cases e
  | _ => cases e
def fMod : PyData → PyData → Option PyData
  | .int i, .int j => if j ≠ 0 then some (.int (i.fmod j)) else none
  | _, _ => none
theorem oMod : OpR X (binaryOp .Mod) (rD fMod) := by
  intro pins s σ H x y v u Q I rx ry h
  obtain ⟨C, a, b, d, e, sm, da, db, q⟩ := h
  cases da with
  | int i =>
    cases db with
    | int j =>
      simp only [fMod] at e
      split at e
      · rename_i hc
        cases e
        exact op_modN pins s σ H _ _ v u Q I rx ry ⟨i, j, rfl, rfl, hc, q _ C H (Ext.refl sm) (.int _)⟩
      · cases e
    | _ => cases e
  | _ => cases e
def fPow : PyData → PyData → Option PyData
  | .int i, .int j => if 0 ≤ j ∧ j ≤ 1000000 ∧ i.natAbs < 2 ^ 64 then some (.int (i ^ j.toNat)) else none
  | _, _ => none
theorem oPow : OpR X (binaryOp .Pow) (rD fPow) := by
  intro pins s σ H x y v u Q I rx ry h
  obtain ⟨C, a, b, d, e, sm, da, db, q⟩ := h
  cases da with
  | int i =>
    cases db with
    | int j =>
      simp only [fPow] at e
      split at e
      · rename_i hc
        cases e
        exact op_pow pins s σ H _ _ v u Q I rx ry ⟨i, j, rfl, rfl, hc, q _ C H (Ext.refl sm) (.int _)⟩
      · cases e
    | _ => cases e
  | _ => cases e

/-! ### comparisons -/
theorem fBOk {f : PyData → PyData → Option Bool} {a b d : PyData} (e : fB f a b = some d) : ∃ k, f a b = some k ∧ d = .bool k := by
  unfold fB at e
  obtain ⟨k, h1, h2⟩ := Option.map_eq_some_iff.mp e
  exact ⟨k, h1, h2.symm⟩
def cEq : PyData → PyData → Option Bool := fun a b => if SeqAt.shaped a = true ∧ SeqAt.shaped b = true then some (PyData.eqv a b) else none
def cNe : PyData → PyData → Option Bool := fun a b => if SeqAt.shaped a = true ∧ SeqAt.shaped b = true then some (!PyData.eqv a b) else none
theorem oEq (hu : X.A.units + 64 < cLine) : OpR X (compareOp .Eq) (rD (fB cEq)) := by
  intro pins s σ H x y v u Q I rx ry h
  obtain ⟨C, a, b, d, e, sm, da, db, q⟩ := h
  obtain ⟨k, e1, ed⟩ := fBOk e
  subst ed
  replace e := e1
  clear e1
  unfold cEq at e
  split at e
  · rename_i hc
    cases e
    exact op_eqD hu pins s σ H _ _ v u Q I rx ry ⟨a, b, dpUp (dpMono sm da), dpUp (dpMono sm db), hc.1, hc.2, q _ C H (Ext.refl sm) (.bl _)⟩
  · cases e
theorem oNe (hu : X.A.units + 64 < cLine) : OpR X (compareOp .NotEq) (rD (fB cNe)) := by
  intro pins s σ H x y v u Q I rx ry h
  obtain ⟨C, a, b, d, e, sm, da, db, q⟩ := h
  obtain ⟨k, e1, ed⟩ := fBOk e
  subst ed
  replace e := e1
  clear e1
  unfold cNe at e
  split at e
  · rename_i hc
    cases e
    exact op_neD hu pins s σ H _ _ v u Q I rx ry ⟨a, b, dpUp (dpMono sm da), dpUp (dpMono sm db), hc.1, hc.2, q _ C H (Ext.refl sm) (.bl _)⟩
  · cases e
def intsOf : List PyData → Option (List Int)
  | [] => some []
  | .int i :: ds => (intsOf ds).map (i :: ·)
  | _ :: _ => none
theorem intsOk {C : Hp} : ∀ {ds : List PyData} {vs : List V} {ns : List Int}, DpAll KD C vs ds → intsOf ds = some ns → vs = ns.map V.int ∧ ds = ns.map PyData.int
  | [], _, _, h, e => by
    cases h
    cases e
    exact ⟨rfl, rfl⟩
  | d :: ds, _, ns, .cons h hs, e => by
    cases h with
    | int i =>
      simp only [intsOf, Option.map_eq_some_iff] at e
      obtain ⟨ms, e1, rfl⟩ := e
      obtain ⟨h1, h2⟩ := intsOk hs e1
      exact ⟨by rw [h1]; rfl, by rw [h2]; rfl⟩
    | _ => cases e
def cLt : PyData → PyData → Option Bool
  | .int i, .int j => some (decide (i < j))
  | .str x, .str y => some (decide (x.cps.toList < y.cps.toList))
  | .tuple xs, .tuple ys => match intsOf xs, intsOf ys with
    | some ns, some ms => some (HT.lexLt ns ms)
    | _, _ => none
  | _, _ => none
theorem oLt (hu : X.A.units + 64 < cLine) : OpR X (compareOp .Lt) (rD (fB cLt)) := by
  intro pins s σ H x y v u Q I rx ry h
  obtain ⟨C, a, b, d, e, sm, da, db, q⟩ := h
  obtain ⟨k, e1, ed⟩ := fBOk e
  subst ed
  replace e := e1
  clear e1
  cases da with
  | int i =>
    cases db with
    | int j =>
      cases e
      exact op_lt pins s σ H _ _ v u Q I rx ry ⟨i, j, rfl, rfl, q _ C H (Ext.refl sm) (.bl _)⟩
    | _ => cases e
  | str i =>
    cases db with
    | str j =>
      cases e
      exact op_lt_str pins s σ H _ _ v u Q I rx ry ⟨i, j, rfl, rfl, q _ C H (Ext.refl sm) (.bl _)⟩
    | _ => cases e
  | @tup a xs ds hs hd =>
    cases db with
    | @tup b ys es ht he =>
      simp only [cLt] at e
      split at e
      · rename_i ns ms e1 e2
        cases e
        obtain ⟨rfl, _⟩ := intsOk hd e1
        obtain ⟨rfl, _⟩ := intsOk he e2
        exact op_ltT (by omega) pins s σ H _ _ v u Q I rx ry ⟨a, b, ns, ms, rfl, rfl, upT (sameT sm hs), upT (sameT sm ht), q _ C H (Ext.refl sm) (.bl _)⟩
      · cases e
    | _ => cases e
  | _ => cases e
def cInt (p : Int → Int → Bool) : PyData → PyData → Option Bool
  | .int i, .int j => some (p i j)
  | _, _ => none
abbrev cLe := cInt fun i j => decide (i ≤ j)
abbrev cGt := cInt fun i j => decide (j < i)
abbrev cGe := cInt fun i j => decide (j ≤ i)
theorem oInt {op : CmpOp} {p : Int → Int → Bool} (ho : OpR X (compareOp op) (rI0 fun i j => .bl (p i j))) : OpR X (compareOp op) (rD (fB (cInt p))) := by
  intro pins s σ H x y v u Q I rx ry h
  obtain ⟨C, a, b, d, e, sm, da, db, q⟩ := h
  obtain ⟨k, e1, ed⟩ := fBOk e
  subst ed
  replace e := e1
  clear e1
  cases da with
  | int i =>
    cases db with
    | int j =>
      cases e
      exact ho pins s σ H _ _ v u Q I rx ry ⟨i, j, rfl, rfl, q _ C H (Ext.refl sm) (.bl _)⟩
    | _ => cases e
  | _ => cases e
theorem oLe : OpR X (compareOp .LtE) (rD (fB cLe)) := oInt op_le
theorem oGt : OpR X (compareOp .Gt) (rD (fB cGt)) := oInt op_gt
theorem oGe : OpR X (compareOp .GtE) (rD (fB cGe)) := oInt op_ge
/-- x in xs -/
def cIn : PyData → PyData → Option Bool
  | d, .list ds => if SeqAt.shaped d = true ∧ SeqAt.shaped (.list ds) = true then some (ds.any fun z => PyData.eqv z d) else none
  | d, .tuple ds => if SeqAt.shaped d = true ∧ SeqAt.shaped (.tuple ds) = true then some (ds.any fun z => PyData.eqv z d) else none
  | _, _ => none
def cNotIn : PyData → PyData → Option Bool := fun a b => (cIn a b).map not
theorem inRoom {A : Around} {d : PyData} {n : Nat} (h : SeqAt.shaped d = true) (hu : A.units + 65 < cLine) : A.units + 1 + min n d.depth < cLine := by
  have := SeqAt.depth_of_shaped h
  omega
theorem oIn (hu : X.A.units + 65 < cLine) : OpR X (compareOp .In) (rD (fB cIn)) := by
  intro pins s σ H x y v u Q I rx ry h
  obtain ⟨C, a, b, d, e, sm, da, db, q⟩ := h
  obtain ⟨k, e1, ed⟩ := fBOk e
  subst ed
  replace e := e1
  clear e1
  obtain ⟨as, r1⟩ := Dp.reads I a x v (dpUp (dpMono sm da)) rx
  obtain ⟨bs, r2⟩ := Dp.reads I b y u (dpUp (dpMono sm db)) ry
  cases db with
  | lst hs hd =>
    simp only [cIn] at e
    split at e
    · rename_i hc
      cases e
      exact SeqAt.in_list_reads r2 r1 (SeqAt.canLay_of_shaped hc.2) (SeqAt.canLay_of_shaped hc.1) (inRoom hc.1 hu) ⟨.bl _, H, I, rfl, q _ C H (Ext.refl sm) (.bl _)⟩
    · cases e
  | tup hs hd =>
    simp only [cIn] at e
    split at e
    · rename_i hc
      cases e
      exact SeqAt.in_tuple_reads r2 r1 (SeqAt.canLay_of_shaped hc.2) (SeqAt.canLay_of_shaped hc.1) (inRoom hc.1 hu) ⟨.bl _, H, I, rfl, q _ C H (Ext.refl sm) (.bl _)⟩
    · cases e
  | _ => cases a <;> cases e
theorem oNotIn (hu : X.A.units + 65 < cLine) : OpR X (compareOp .NotIn) (rD (fB cNotIn)) := by
  intro pins s σ H x y v u Q I rx ry h
  obtain ⟨C, a, b, d, e, sm, da, db, q⟩ := h
  obtain ⟨k, e1, ed⟩ := fBOk e
  subst ed
  replace e := e1
  clear e1
  obtain ⟨k', e1, ed⟩ := Option.map_eq_some_iff.mp e
  subst ed
  replace e := e1
  clear e1
  obtain ⟨as, r1⟩ := Dp.reads I a x v (dpUp (dpMono sm da)) rx
  obtain ⟨bs, r2⟩ := Dp.reads I b y u (dpUp (dpMono sm db)) ry
  cases db with
  | lst hs hd =>
    simp only [cIn] at e
    split at e
    · rename_i hc
      cases e
      exact SeqAt.notIn_list_reads r2 r1 (SeqAt.canLay_of_shaped hc.2) (SeqAt.canLay_of_shaped hc.1) (inRoom hc.1 hu) ⟨.bl _, H, I, rfl, q _ C H (Ext.refl sm) (.bl _)⟩
    · cases e
  | tup hs hd =>
    simp only [cIn] at e
    split at e
    · rename_i hc
      cases e
      exact SeqAt.notIn_tuple_reads r2 r1 (SeqAt.canLay_of_shaped hc.2) (SeqAt.canLay_of_shaped hc.1) (inRoom hc.1 hu) ⟨.bl _, H, I, rfl, q _ C H (Ext.refl sm) (.bl _)⟩
    · cases e
  | _ => cases a <;> cases e

/-! ### items -/
def fIx : PyData → PyData → Option PyData
  | .list ds, .int i => atI ds i
  | .tuple ds, .int i => atI ds i
  | .str z, .int i => if z.length ≤ 16777216 then (atI z.cps.toList i).map fun c => .str ⟨#[c]⟩ else none
  | _, _ => none
theorem atOk {K : PySem.W.Frag} {C : Hp} {vs : List V} {ds : List PyData} {i : Int} {d : PyData} (h : DpAll K C vs ds) (e : atI ds i = some d) : ∃ v, atI vs i = some v ∧ Dp K C v d := by
  unfold atI at e ⊢
  rw [dpaLen h]
  cases e2 : ixN ds.length i with
  | none =>
    rw [e2] at e
    cases e
  | some j =>
    rw [e2] at e
    exact dpaGet h e
theorem oIx : IxR X (rD fIx) := by
  intro value slice pins s σ H x y v u Q I rx ry h hsub
  obtain ⟨C, a, b, d, e, sm, da, db, q⟩ := h
  cases da with
  | @lst p vs ds hs hd =>
    cases db with
    | int i =>
      obtain ⟨w, e1, e2⟩ := atOk hd e
      exact ix_list value slice pins s σ H _ _ v u Q I rx ry ⟨p, vs, i, w, rfl, rfl, upL (sm.seq hs), e1, q _ C H (Ext.refl sm) e2⟩ hsub
    | _ => cases e
  | @tup p vs ds hs hd =>
    cases db with
    | int i =>
      obtain ⟨w, e1, e2⟩ := atOk hd e
      exact ix_tup value slice pins s σ H _ _ v u Q I rx ry ⟨p, vs, i, w, rfl, rfl, upT (sameT sm hs), e1, q _ C H (Ext.refl sm) e2⟩ hsub
    | _ => cases e
  | str z =>
    cases db with
    | int i =>
      simp only [fIx] at e
      split at e
      · rename_i hl
        obtain ⟨c, e1, rfl⟩ := Option.map_eq_some_iff.mp e
        exact ix_str value slice pins s σ H _ _ v u Q I rx ry ⟨z, i, c, rfl, rfl, lineLe hl, e1, q _ C H (Ext.refl sm) (.str _)⟩ hsub
      · cases e
    | _ => cases e
  | _ => cases e

/-! ### what is built in -/
def bLen : List PyData → Option PyData
  | [.list ds] => some (.int (ds.length : Nat))
  | [.tuple ds] => some (.int (ds.length : Nat))
  | _ => none
theorem kLen : CallR X (.builtin "len") (rDs bLen) := by
  intro pins s σ H xs us Q I r h
  obtain ⟨C, ds, d, e, sm, da, q⟩ := h
  cases da with
  | nil => cases e
  | cons d1 d2 =>
    cases d2 with
    | cons _ _ => cases d1 <;> cases e
    | nil =>
      cases d1 with
      | @lst p vs ds hs hd =>
        cases e
        rw [← dpaLen hd] at q
        exact call_len_seq pins s σ H _ us Q I r ⟨p, vs, rfl, .inl (upL (sm.seq hs)), q _ C H (Ext.refl sm) (.int _)⟩
      | @tup p vs ds hs hd =>
        cases e
        rw [← dpaLen hd] at q
        exact call_len_seq pins s σ H _ us Q I r ⟨p, vs, rfl, .inr (upT (sameT sm hs)), q _ C H (Ext.refl sm) (.int _)⟩
      | _ => cases e
def bInt : List PyData → Option PyData
  | [.int i] => some (.int i)
  | [.bool k] => some (.int (if k then 1 else 0))
  | _ => none
theorem kInt : CallR X (.type "int") (rDs bInt) := by
  intro pins s σ H xs us Q I r h
  obtain ⟨C, ds, d, e, sm, da, q⟩ := h
  cases da with
  | nil => cases e
  | cons d1 d2 =>
    cases d2 with
    | cons _ _ => cases d1 <;> cases e
    | nil =>
      cases d1 with
      | int i =>
        cases e
        exact call_int1 pins s σ H _ us Q I r (.inl ⟨i, rfl, q _ C H (Ext.refl sm) (.int _)⟩)
      | bl k =>
        cases e
        exact call_int1 pins s σ H _ us Q I r (.inr ⟨k, rfl, q _ C H (Ext.refl sm) (.int _)⟩)
      | _ => cases e
def bMax : List PyData → Option PyData
  | [.int i, .int j] => some (.int (if j > i then j else i))
  | _ => none
theorem kMax (hc : X.calm = true) : CallR X (.builtin "max") (rDs bMax) := by
  intro pins s σ H xs us Q I r h
  obtain ⟨C, ds, d, e, sm, da, q⟩ := h
  cases da with
  | nil => cases e
  | cons d1 d2 =>
    cases d2 with
    | nil => cases d1 <;> cases e
    | cons d2 d3 =>
      cases d3 with
      | cons _ _ => cases d1 <;> cases d2 <;> cases e
      | nil =>
        cases d1 with
        | int i =>
          cases d2 with
          | int j =>
            cases e
            exact call_max2 hc pins s σ H _ us Q I r ⟨i, j, rfl, q _ C H (Ext.refl sm) (.int _)⟩
          | _ => cases e
        | _ => cases d2 <;> cases e
def bMin : List PyData → Option PyData
  | [.int i, .int j] => some (.int (if j < i then j else i))
  | _ => none
theorem kMin (hc : X.calm = true) : CallR X (.builtin "min") (rDs bMin) := by
  intro pins s σ H xs us Q I r h
  obtain ⟨C, ds, d, e, sm, da, q⟩ := h
  cases da with
  | nil => cases e
  | cons d1 d2 =>
    cases d2 with
    | nil => cases d1 <;> cases e
    | cons d2 d3 =>
      cases d3 with
      | cons _ _ => cases d1 <;> cases d2 <;> cases e
      | nil =>
        cases d1 with
        | int i =>
          cases d2 with
          | int j =>
            cases e
            exact call_min2 hc pins s σ H _ us Q I r ⟨i, j, rfl, q _ C H (Ext.refl sm) (.int _)⟩
          | _ => cases e
        | _ => cases d2 <;> cases e
def bTup : List PyData → Option PyData
  | [.list ds] => some (.tuple ds)
  | [.tuple ds] => some (.tuple ds)
  | _ => none
theorem kTup : CallR X (.type "tuple") (rDs bTup) := by
  intro pins s σ H xs us Q I r h
  obtain ⟨C, ds, d, e, sm, da, q⟩ := h
  cases da with
  | nil => cases e
  | cons d1 d2 =>
    cases d2 with
    | cons _ _ => cases d1 <;> cases e
    | nil =>
      cases d1 with
      | @lst p vs ds hs hd =>
        cases e
        refine call_tuple_of pins s σ H _ us Q I r ⟨p, vs, rfl, .inl ⟨upL (sm.seq hs), fun l hn => ?_⟩⟩
        obtain ⟨x1, x2⟩ := coldT sm hn hd
        exact q _ _ _ x1 x2
      | @tup p vs ds hs hd =>
        cases e
        exact call_tuple_of pins s σ H _ us Q I r ⟨p, vs, rfl, .inr ⟨upT (sameT sm hs), q _ C H (Ext.refl sm) (.tup hs hd)⟩⟩
      | _ => cases e
def bLst : List PyData → Option PyData
  | [.list ds] => some (.list ds)
  | [.tuple ds] => some (.list ds)
  | _ => none
theorem kLst : CallR X (.type "list") (rDs bLst) := by
  intro pins s σ H xs us Q I r h
  obtain ⟨C, ds, d, e, sm, da, q⟩ := h
  cases da with
  | nil => cases e
  | cons d1 d2 =>
    cases d2 with
    | cons _ _ => cases d1 <;> cases e
    | nil =>
      cases d1 with
      | @lst p vs ds hs hd =>
        cases e
        refine call_list_of pins s σ H _ us Q I r ⟨p, vs, rfl, .inl (upL (sm.seq hs)), fun l hn => ?_⟩
        obtain ⟨x1, x2⟩ := coldL sm hn hd
        exact q _ _ _ x1 x2
      | @tup p vs ds hs hd =>
        cases e
        refine call_list_of pins s σ H _ us Q I r ⟨p, vs, rfl, .inr (upT (sameT sm hs)), fun l hn => ?_⟩
        obtain ⟨x1, x2⟩ := coldL sm hn hd
        exact q _ _ _ x1 x2
      | _ => cases e
/-- repr -/
def bRepr : List PyData → Option PyData
  | [.bool b] => some (.str (if b then "True" else "False"))
  | [.none] => some (.str "None")
  | [.int i] => if i.natAbs.log2 < 1920 then some (.str (toString i)) else none
  | [.list ds] => if (PyData.list ds).showable = true ∧ (PyData.list ds).hasDict = false ∧ (PyData.list ds).depth ≤ 64 ∧ (PyData.list ds).shown.length ≤ 16777216 then some (.str (PyData.list ds).shown) else none
  | [.tuple ds] => if (PyData.tuple ds).showable = true ∧ (PyData.tuple ds).hasDict = false ∧ (PyData.tuple ds).depth ≤ 64 ∧ (PyData.tuple ds).shown.length ≤ 16777216 then some (.str (PyData.tuple ds).shown) else none
  | _ => none
theorem kReprRef (hG : X.A.guards = some []) (hu : X.A.units + 80 < cLine) {pins : List (Addr × Obj)} {s : Shared} {σ : L2.St} {H C : Hp} {a : Addr} {us : List Value} {Q : VK} {d : PyData} (I : Inv X pins σ H s) (r : Vals [.ref a] us) (sm : Same C H) (dd : Dp KD C (.ref a) d)
    (hc : d.showable = true ∧ d.hasDict = false ∧ d.depth ≤ 64 ∧ d.shown.length ≤ 16777216) (q : Q (.str d.shown) H) : wpAny (model X.prog X.w) X.A (call (.builtin "repr") us) (EP X pins σ Q) X.xe s := by
  have e1 := Vals.ref1 r
  subst e1
  obtain ⟨as, rd⟩ := Dp.reads I d (.ref a) (.ref a) (dpUp (dpMono sm dd)) rfl
  exact PySem.repr_of_reads' rd hc.1 (PyData.noDict_hsm hc.2.1) hG (by omega) (fun _ _ e => e) (fun h' u tk hk => ⟨.str d.shown, H, I.kept hk, ⟨u, rfl⟩, q⟩) (lineLe hc.2.2.2)
theorem kRepr (hG : X.A.guards = some []) (hu : X.A.units + 80 < cLine) : CallR X (.builtin "repr") (rDs bRepr) := by
  intro pins s σ H xs us Q I r h
  obtain ⟨C, ds, d, e, sm, da, q⟩ := h
  cases da with
  | nil => cases e
  | cons d1 d2 =>
    cases d2 with
    | cons _ _ => cases d1 <;> cases e
    | nil =>
      cases d1 with
      | non =>
        cases e
        obtain ⟨u, rfl, r1⟩ := vals1 r
        cases r1
        exact PySem.P.repr_of_none ⟨.str _, H, I.tok _, ⟨_, rfl⟩, q _ C H (Ext.refl sm) (.str _)⟩
      | bl b =>
        cases e
        obtain ⟨u, rfl, r1⟩ := vals1 r
        cases r1
        exact PySem.P.repr_of_bool ⟨.str _, H, I.tok _, ⟨_, rfl⟩, q _ C H (Ext.refl sm) (.str _)⟩
      | int i =>
        simp only [bRepr] at e
        split at e
        · rename_i hc
          cases e
          obtain ⟨u, rfl, t, rfl⟩ := vals1 r
          exact PySem.P.repr_of_int hc ⟨.str _, H, I.tok _, ⟨_, rfl⟩, q _ C H (Ext.refl sm) (.str _)⟩
        · cases e
      | @lst p vs ds hs hd =>
        simp only [bRepr] at e
        split at e
        · rename_i hc
          cases e
          exact kReprRef hG hu I r sm (.lst hs hd) hc (q _ C H (Ext.refl sm) (.str _))
        · cases e
      | @tup p vs ds hs hd =>
        simp only [bRepr] at e
        split at e
        · rename_i hc
          cases e
          exact kReprRef hG hu I r sm (.tup hs hd) hc (q _ C H (Ext.refl sm) (.str _))
        · cases e
      | _ => cases e
end
end Dn
set_option maxHeartbeats 4000000
namespace PySem
namespace WhX
open PySem.W PySem.Calls PyProof.Rows PySem.HandSPX
/-! ### the text of __init__ -/
def iA (p1 p2 : Pos) : Arguments := { posonlyargs := [], args := [{ arg := "self", annotation := none, pos := p1 }, { arg := "what", annotation := none, pos := p2 }], vararg := none, kwonlyargs := [], kw_defaults := [], kwarg := none, defaults := [] }
def iB (q1 q2 q3 q4 r1 r2 r3 r4 r5 r6 : Pos) : List Stmt := [.Assign [.Attribute (.Name "self" q1) "what" q2] (.Name "what" q3) q4, .Assign [.Attribute (.Name "self" r1) "kind" r2] (.Attribute (.Attribute (.Name "self" r3) "__class__" r4) "__name__" r5) r6]
def iS : Scope := { kind := .function, names := [(PySem.Str.ofString "self", .local), (PySem.Str.ofString "what", .local)], isGenerator := false, isCoroutine := false, more := [] }
/-- what the written part says of Low, at C, and of its __init__, at fI -/
structure WhTxt (K : Frag) (mg : Str → Option Value) (nmC : Str) (C fI : Addr) : Prop where
  gC : mg nmC = some (.ref C)
  cls : ∃ nm q N bs bm sn sub ab col dd k0 k1 kn kt k3 k5, K.lookup C = some (excClassObj nm q C N bs bm true sn sub ab col dd k0 k1 (some (.str kn kt)) k3 k5 "ValueError.__new__") ∧ refsVE bm = true
  sa : findIn K (.ref C) "__setattr__" = some (some (.builtin "object.__setattr__"))
  ga : findIn K (.ref C) "__getattribute__" = some (some (.builtin "BaseException.__getattribute__"))
  gg : findIn K (.ref C) "__getattr__" = some none
  noN : findIn K (.ref C) "what" = some none
  noK : findIn K (.ref C) "kind" = some none
  clA : findIn K (.ref C) "__class__" = some (some (.builtin "object.__class__"))
  clG : specialIn K (.builtin "object.__class__") "__get__" = some (some (.builtin "getset_descriptor.__get__"))
  clT : takesIn K (.builtin "object.__class__") = some true
  clO : mroIn K C (.type "object") = some true
  naR : readsIn K C (.type "type") = true
  naF : findCls K (.ref C) (.type "type") "__name__" = some (.get (.builtin "getset_descriptor.__get__") (.builtin "type.__name__") (.ref C) (.type "type"))
  iC : findIn K (.ref C) "__init__" = some (some (.ref fI))
  tC : typeIn K (.ref fI) = some (.type "function")
  kC : keepIn K (.ref C) = true
  exC : subIn K (.ref C) (.type "BaseException") = some true
  tyC : typeIn K (.ref C) = some (.type "type")
  hdC : hasDictIn K C = true
  te : exmOne K (.ref C) (.ref C) = some true
  fn : ∃ (oc : Value) (od : Option Addr) (doc pm : Value) (an : Option Addr) (cdv ct : Value) (osl : Array (Option Value)) (p1 p2 q1 q2 q3 q4 r1 r2 r3 r4 r5 r6 : Pos),
    K.lookup fI = some ⟨oc, od, .func (fnOf "__init__" "Refused.__init__" (iA p1 p2) (iB q1 q2 q3 q4 r1 r2 r3 r4 r5 r6) iS .none .none doc pm an cdv ct), osl⟩ ∧ codeIn K cdv "Refused.__init__" = true
section
open Builtin Builtin.ObjectAttr Builtin.Getset_descriptor
variable {prog : Program} {w : World} {A : Around} {E : Value → Shared → Prop} {R : Result → Shared → Prop} {s : Shared} {K : Frag}
theorem dga_ref (d tp : Value) (C : Addr) : descrGetArgs ⟨[d, .ref C, tp], []⟩ = pure (d, some (.ref C), given tp) := by kernel_rfl
/-- C.__name__, C a class of the program: what it was named with -/
theorem name_get {C : Addr} {o : Obj} {tp v : Value} (X : K.In s.heap) (ht : typeIn K (.ref C) = some (.type "type")) (ho : K.lookup C = some o) (hs : o.slots[2]? = some (some v)) (h : R (.ok (.ret v)) s) :
    codeAny (model prog w) A (.call (.builtin "getset_descriptor.__get__") ⟨[.builtin "type.__name__", .ref C, tp], []⟩) R s := by
  obtain ⟨hh, g, dr, t, os⟩ := s
  have L0 : Looks (model prog w) hh (typeOf (.ref C)) (.type "type") := looks_typeIn X ht
  have L1 : Looks (model prog w) hh (isSubtype (.type "type") (.type "type")) true := Looks.of_pure (by rw [isSubtype_type]; kernel_rfl)
  refine codeAny_call_builtin KF.slot_gs.plain KF.entry_gs (KF.slot_gs.check _ _ _ _ _ _ _ _ ktyn_type (KF.args_gs _ _ _) ?_)
  unfold Builtin.«getset_descriptor.__get__» descrGet
  rw [dga_ref]
  refine wpAny_bind (wpAny_pure ?_)
  unfold descrGetter descrCheckInstance descrNameAndClass isInstance
  simp only [ktyn_owner]
  repeat lk
  refine ⟨Code.quiet_builtin _ (by decide +kernel), codeAny_builtin ktyn_entry ?_⟩
  unfold Builtin.«type.__name__»
  dsimp only
  unfold keptObject
  dsimp only
  unfold slotAt
  refine wpAny_bind (wpAny_bind (wpAny_loadPart_at (X _ _ ho) (wpAny_pure ?_)))
  rw [hs]
  exact wpAny_pure h
theorem name_attr {C : Addr} {o : Obj} {v : Value} {expr : Bool} {Q : Value → Shared → Prop} (X : K.In s.heap) (hr : readsIn K C (.type "type") = true) (hf : findCls K (.ref C) (.type "type") "__name__" = some (.get (.builtin "getset_descriptor.__get__") (.builtin "type.__name__") (.ref C) (.type "type")))
    (ht : typeIn K (.ref C) = some (.type "type")) (ho : K.lookup C = some o) (hs : o.slots[2]? = some (some v)) (hh : handedIn v = true) (h : Q v { s with toks := s.toks + 1 }) : wpAny (model prog w) A (getAttr (.ref C) "__name__" expr) Q E s := by
  refine cls_bind X hr hf ?_
  refine wpAny_call (name_get (s := { s with toks := s.toks + 1 }) X ht ho hs ?_)
  exact handed_on hh h
/-- x.__class__, x an error -/
theorem class_attr {D x : Addr} {ox : Obj} {od : Option Obj} {expr : Bool} {Q : Value → Shared → Prop} (hga : findIn K (.ref D) "__getattribute__" = some (some (.builtin "BaseException.__getattribute__"))) (hgt : findIn K (.ref D) "__getattr__" = some none) (hsub : subIn K (.ref D) (.type "BaseException") = some true)
    (hdct : hasDictIn K D = true) (ha : findIn K (.ref D) "__class__" = some (some (.builtin "object.__class__")))
    (hn : specialIn K (.builtin "object.__class__") "__get__" = some (some (.builtin "getset_descriptor.__get__"))) (htk : takesIn K (.builtin "object.__class__") = some true) (hm : mroIn K D (.type "object") = some true)
    (X : K.In s.heap) (I : InstAt s.heap x ox D od) (h : Q (.ref D) { s with toks := s.toks + 1 }) : wpAny (model prog w) A (getAttr (.ref x) "__class__" expr) Q E s := by
  have hf : findObj K D od "__class__" = some (.bind (.builtin "getset_descriptor.__get__") (.builtin "object.__class__")) := by
    obtain ⟨cdl, hcl, _⟩ := any_some hdct
    unfold findObj; rw [hcl, Option.bind_some, ha, Option.bind_some]; simp [hn, htk]
  obtain ⟨hp, g, d, t, os⟩ := s
  have L0 := I.type (M := model prog w)
  have L1 := looks_findIn (M := model prog w) X hga
  have L2 := looks_findIn (M := model prog w) X hgt
  have L3 := looks_find (M := model prog w) X I hf
  have sub : Looks (model prog w) hp (isInstance (.ref x) (.type "BaseException")) true := L0.andThen (looks_subIn X hsub)
  have hx0 : (expr && onTheHeap (Value.builtin "BaseException.__getattribute__")) = false := by cases expr <;> rfl
  have hx2 : (Value.builtin "BaseException.__getattribute__" == Value.builtin "object.__getattribute__") = false := by decide +kernel
  have hx1 : (onTheHeap (Value.ref D) && Value.builtin "BaseException.__getattribute__" == Value.builtin "object.__getattribute__") = false := by rw [hx2]; rfl
  unfold getAttr getAttrBy
  refine wpAny_bind (wpAny_mkText (wpAny_holding (wpAny_bind (L0.at (wpAny_bind (L1.at ?_))))))
  show wpAny _ _ (if (onTheHeap (Value.ref D) && Value.builtin "BaseException.__getattribute__" == Value.builtin "object.__getattribute__") = true then _ else _) _ _ _
  rw [hx1, if_neg Bool.false_ne_true]
  unfold getAttrByItsOwn hookBefore
  refine wpAny_bind ?_
  rw [if_pos (show onTheHeap (Value.ref D) = true from rfl)]
  refine L2.at ?_
  refine wpAny_bind (wpAny_attempt (wpAny_holding ?_))
  unfold callGetattribute
  rw [hx0, if_neg Bool.false_ne_true]
  unfold boundAndCalled
  rw [PySem.F.excAttr_ValueError.ga.bind (.ref x)]
  refine wpAny_bind (wpAny_pure ?_)
  show wpAny _ _ (call (.builtin "BaseException.__getattribute__") [.ref x, .str "__class__" t]) _ _ _
  refine wpAny_call (codeAny_call_builtin PySem.F.excAttr_ValueError.ga.plain PySem.F.entry_bexc_ga ?_)
  refine @check_slot (model prog w) _ _ ⟨hp, g, d, t + 1, os⟩ "BaseException.__getattribute__" "BaseException" "__getattribute__" (.ref x) [.str "__class__" t] [] _ (by decide +kernel) (by decide +kernel) sub (PySem.F.args_bexc_ga (.ref x) (.str "__class__" t)) ?_
  unfold Builtin.«object.__getattribute__»
  refine wpAny_bind (wpAny_of_eq (a := ((Value.ref x : Value), [Value.str "__class__" t])) (by first | rfl | (simp only [slotArgs]; rfl)) ?_)
  refine wpAny_bind (wpAny_pure (wpAny_bind (L0.at (wpAny_bind (L3.at ?_)))))
  show wpAny _ _ (holding [Value.builtin "object.__class__"] (call (.builtin "getset_descriptor.__get__") [.builtin "object.__class__", .ref x, .ref D]) >>= ret) _ _ _
  refine wpAny_bind (wpAny_holding (wpAny_call (class_get (s := ⟨hp, g, d, t + 1, os⟩) (ox := ox) (od := od) X I hm ?_)))
  refine wpAny_pure ?_
  show wpAny _ _ (handedOut (.ref D)) _ _ _
  rw [handedOut_of (v := .ref D) rfl]
  first
    | exact wpAny_pure h
    | exact wpAny_pure (wpAny_pure h)
    | exact wpAny_pure (wpAny_bind (wpAny_pure (wpAny_pure h)))
end
theorem one_size (v : Value) : [v].length ≤ sizeLine := by
  rw [sizeLine_eq]
  exact (by decide : 1 ≤ 16777216)
theorem kept_but {K : Frag} {h h' : Heap} {x : Addr} (X : K.In h) (hx : K.lookup x = none) (k : ∀ b o, b ≠ x → h.get? b = some o → h'.get? b = some o) : K.In h' := fun a o e =>
  k a o (fun z => by rw [z, hx] at e; cases e) (X a o e)
theorem ldC {M : Model} {s : Shared} {name : Str} {scope : Scope} {L a : Addr} {cd : Value} {m : Str → Option Value} {x : Str} {pos : Pos} {v : Value} {Q : Value → Shared → Prop} {A : Around} {E : Value → Shared → Prop} (hn : s.heap.Ns L m) (hv : m x = some v) (h : Q v s)
    (hk : scope.kind = .function := by rfl) (hl : (envOfC name scope L a cd).kindOf x = some .local := by rfl) (hd : (x == ("__debug__" : Str)) = false := by decide) :
    wpAny M A (eval (.Name x pos) (envOfC name scope L a cd)) Q E s := wpAny_Name (wpAny_loadName_local hk hl hn hv h) hd
/-- what __init__ leaves of a fresh exception at x -/
structure InitEnd (h h' : Heap) (x C dx t1 : Addr) (v : Value) : Prop where
  keep : ∀ b o, b ≠ x → h.get? b = some o → h'.get? b = some o
  obj : h'.get? x = some { cls := .ref C, dict := some dx, data := .fields #[.ref t1, .none, .none, .none, .bool false, .none] }
  dbig : h.objs.size ≤ dx
  dne : dx ≠ x
  ns : ∃ mA, h'.Ns1 dx mA ∧ mA "what" = some v
/-- a made Low -/
structure OwnMade (h h' : Heap) (e C d : Addr) (v : Value) : Prop where
  keep : ∀ b o, h.get? b = some o → h'.get? b = some o
  new : h.objs.size ≤ e
  obj : ∃ oe vs, h'.get? e = some oe ∧ oe.cls = .ref C ∧ oe.dict = some d ∧ oe.data = .fields vs ∧ vs[1]? = some .none
  dbig : h.objs.size ≤ d
  dne : d ≠ e
  ns : ∃ mA, h'.Ns1 d mA ∧ mA "what" = some v
section
variable {prog : Program} {w : World} {A : Around} {E : Value → Shared → Prop} {R : Result → Shared → Prop} {s : Shared} {K : Frag} {mg : Str → Option Value} {nmC : Str} {C fI : Addr}
theorem wh_init (T : WhTxt K mg nmC C fI) {x t0 : Addr} {v : Value} (X : K.In s.heap) (hlim : s.heap.NoLimit) (hx : s.heap.get? x = some (excO C t0)) (hnx : K.lookup x = none) (hroom : A.depth < recursionLimit)
    (hq : ∀ h' tk dx, InitEnd s.heap h' x C dx t0 v → R (.ok (.ret .none)) { s with heap := h', toks := tk }) :
    codeAny (model prog w) A (.call (.ref fI) ⟨[.ref x, v], []⟩) R s := by
  obtain ⟨oc, od, doc, pm, an, cdv, ct, osl, p1, p2, q1, q2, q3, q4, r1, r2, r3, r4, r5, r6, ho, hcd⟩ := T.fn
  obtain ⟨nm, q, N, bs, bm, sn, sub, ab, col, dd, k0, k1, kn, kt, k3, k5, hC, hbm⟩ := T.cls
  have hcl : clsIn K C = some { name := nm, bases := bs, mro := .ref C :: bm, ns := N, qualname := q, hasDict := true, slotNames := sn, subclasses := sub, abstract := ab, collection := col, hasDel := false } := by unfold clsIn; rw [hC] <;> rfl
  refine Att.call_fn (binds := [("self", .ref x), ("what", v)]) X hlim ho hcd hroom (BindsTo.of_eq (by first | rfl | with_unfolding_all rfl)) (by first | rfl | decide | with_unfolding_all rfl) (fun s₁ IC => ?_) rfl rfl rfl
  obtain ⟨h₁, tk₁, rfl⟩ := IC.toInCall.same
  have k : ∀ b o, s.heap.get? b = some o → h₁.get? b = some o := IC.toInCall.keep
  have hn := IC.toInCall.ns
  have hxL : s.heap.objs.size ≠ x := Nat.ne_of_gt (Heap.lt_size hx)
  have X₁ : K.In h₁ := X.keeps k
  have hx₁ := k _ _ hx
  -- self.by = by
  show wpAny _ _ (execs _ _) _ _ _
  refine wpAny_execs_cons (plainObj_wpAny_Assign_Attribute ?_)
  refine ldC (v := v) hn (by first | rfl | with_unfolding_all rfl | kernel_rfl) (ldC (v := .ref x) hn (by first | rfl | with_unfolding_all rfl | kernel_rfl) ?_)
  refine set_plain X₁ (ox := excO C t0) (od := none) ⟨hx₁, rfl, rfl, trivial⟩ T.sa ?_
  refine exc_osa X₁ hx₁ hcl (show refsVE (.ref C :: bm) = true from hbm) rfl T.noN (fun h₃ tk₃ dx k₃ dn dne hx₃ hn₃ => ?_)
  have z : s.heap.objs.size < h₁.objs.size := hn.lt
  have X₃ : K.In h₃ := kept_but X hnx (fun b o hb e => k₃ b o hb (k b o e))
  have hnL : h₃.Ns s.heap.objs.size _ := hn.at fun o e => k₃ _ _ hxL e
  show wpAny _ _ (execs _ _) _ _ _
  refine wpAny_execs_cons (plainObj_wpAny_Assign_Attribute ?_)
  have dxL : dx < h₃.objs.size := by
    obtain ⟨o, _, _, e, _⟩ := hn₃
    exact Heap.lt_size e
  obtain ⟨oD, esD, epD, hoD, hdD, _⟩ := hn₃.count (Within.cons _ _ Within.nil)
  have I₃ : W.InstAt h₃ x { cls := .ref C, dict := some dx, data := .fields #[.ref t0, .none, .none, .none, .bool false, .none] } C (some oD) := ⟨hx₃, rfl, rfl, hoD⟩
  refine L2.attr_of rfl (L2.attr_of rfl (ldC (v := .ref x) hnL (by first | rfl | with_unfolding_all rfl | kernel_rfl) ?_))
  refine class_attr T.ga T.gg T.exC T.hdC T.clA T.clG T.clT T.clO X₃ I₃ ?_
  refine name_attr X₃ T.naR T.naF T.tyC hC rfl rfl ?_
  refine ldC (v := .ref x) hnL (by first | rfl | with_unfolding_all rfl | kernel_rfl) ?_
  refine set_plain X₃ (ox := { cls := .ref C, dict := some dx, data := .fields #[.ref t0, .none, .none, .none, .bool false, .none] }) (od := some oD) ⟨hx₃, rfl, rfl, hoD⟩ T.sa ?_
  refine OEX.osa_old X₃ hx₃ hn₃ (Within.cons _ _ Within.nil) (by decide) hcl (show refsVE (.ref C :: bm) = true from hbm) rfl T.noK (fun h₄ tk₄ k₄ hn₄ => ?_)
  show wpAny _ _ (execs _ _) _ _ _
  exact wpAny_execs_nil (hq h₄ tk₄ dx ⟨fun b o hb e => k₄ b o (Nat.ne_of_lt (Nat.lt_of_lt_of_le (Nat.lt_trans (Heap.lt_size e) z) dn)) (k₃ b o hb (k b o e)), k₄ x _ (Ne.symm dne) hx₃, Nat.le_of_lt (Nat.lt_of_lt_of_le z dn), dne, ⟨_, hn₄, rfl⟩⟩)
theorem wh_made (T : WhTxt K mg nmC C fI) {v : Value} (X : K.In s.heap) (hlim : s.heap.NoLimit) (hroom : A.depth + 1 < recursionLimit)
    (hq : ∀ h' tk e d, OwnMade s.heap h' e C d v → R (.ok (.ret (.ref e))) { s with heap := h', toks := tk }) :
    codeAny (model prog w) A (.call (.ref C) ⟨[v], []⟩) R s := by
  obtain ⟨nm, q, N, bs, bm, sn, sub, ab, col, dd, k0, k1, kn, kt, k3, k5, hC, hbm⟩ := T.cls
  obtain ⟨hp, g, dr, tk, os⟩ := s
  have k : ∀ b o, hp.get? b = some o → ((hp.push (kdv_tup [v])).push (excO C hp.objs.size)).get? b = some o := fun b o e => Heap.get?_push_of_some _ (Heap.get?_push_of_some _ e)
  have hget : ((hp.push (kdv_tup [v])).push (excO C hp.objs.size)).get? (hp.objs.size + 1) = some (excO C hp.objs.size) := by heap_get
  have hnx : K.lookup (hp.objs.size + 1) = none := by
    cases e : K.lookup (hp.objs.size + 1) with
    | none => rfl
    | some o =>
      have z : hp.get? (hp.objs.size + 1) = some o := X _ _ e
      exact absurd (Nat.lt_of_succ_lt (Heap.lt_size z)) (Nat.lt_irrefl _)
  refine call_own F.excBase_ValueError (fun X => refsVE_contains X bm hbm) (X _ _ hC) (looks_findIn X T.iC) (fun self => bind_fn X self T.tC) (one_size v) ?_
  refine wh_init (s := ⟨(hp.push (kdv_tup [v])).push (excO C hp.objs.size), g, dr, tk, os⟩) T (X.keeps k) (hlim.keeps k) hget hnx ?_ fun h' tk' dx ⟨k', hx, dn, dne, hns⟩ => ?_
  · show A.depth + 1 < recursionLimit
    exact hroom
  · have old : ∀ b o, hp.get? b = some o → h'.get? b = some o := fun b o e => k' b o (Nat.ne_of_lt (Nat.lt_succ_of_lt (Heap.lt_size e))) (k b o e)
    have z : hp.objs.size + 1 + 1 ≤ dx := by
      first
        | (simpa only [Heap.size_push] using dn)
        | exact dn
        | (have q := dn; rw [Heap.size_push, Heap.size_push] at q; exact q)
    exact ⟨rfl, hq h' tk' (hp.objs.size + 1) dx ⟨old, Nat.le_succ _, ⟨_, _, hx, rfl, rfl, rfl, rfl⟩, Nat.le_trans (Nat.le_trans (Nat.le_succ _) (Nat.le_succ _)) z, dne, hns⟩⟩
end
end WhX
end PySem
namespace L2
open PySem PySem.Spec PyProof.Rows
theorem xw_ok {P : Program} {w : World} {H : Hp} {h : Heap} {d : Addr} {v : V} {v' : Value} {mA : Str → Option Value} (hn : h.Ns1 d mA) (e : mA "what" = some v') (r : RelV v v') : ObjOk P w H h d (xw d v) := by
  obtain ⟨o, es, ep, ho, hr⟩ := hn
  exact ⟨⟨mA, ⟨o, es, ep, ho, hr⟩, by rw [e]; exact r⟩, ⟨o, ho⟩, fun h1 h2 z k => by
    obtain ⟨m2, hn2, r2⟩ := z
    exact ⟨m2, hn2.at fun o q => k _ q, r2⟩⟩
theorem xw_at {P : Program} {w : World} {H : Hp} {h : Heap} {d : Addr} {v : V} (x : ObjOk P w H h d (xw d v)) : ∃ mA, h.Ns1 d mA ∧ RelO (some v) (mA "what") := x.1
section
variable {X : Cx} {nmC : Str} {C fI : Addr}
/-- Low(e) -/
def tMkWh (C : Addr) (ta : TA) : St → Hp → XK → Prop := fun σ H Q => ta σ H fun vs H1 => ∃ v, vs = [v] ∧ ∀ d, H1 d = none → Q (.ref C) (some d) (upd H1 d (xw d v))
theorem pmk_wh {a : Expr} {ta : TA} {p pos : Pos} {k : Nat} (T : PySem.WhX.WhTxt X.K X.mg nmC C fI) (hr : Room k X.A) (ha : PA X [a] ta) (hg : Gl X nmC) (hdb : (nmC == ("__debug__" : Str)) = false)
    (he : starEach (a :: []) X.env = (false, eval a X.env) :: starEach [] X.env := by rfl) (hpl : (backTo pos (starEach [] X.env)).any (·.1) = false := by rfl) :
    PMk X (.Call (.Name nmC p) [a] [] pos) (tMkWh C ta) := by
  intro pins s σ H Q I h
  refine wpAny_Call_Name_kw (ld_glob I hg T.gC ?_ hdb)
  refine PySem.W.callWith_K (h₀ := X.base) I.ok.mod.kin T.kC (thn (ha.run pos pins s σ H _ I h) fun us s1 hh => ?_) he hpl
  obtain ⟨vs, H1, I1, r1, v, ev, q1⟩ := hh
  subst ev
  refine ⟨I1.kIn, ?_⟩
  cases r1 with
  | cons rv rn =>
    rename_i v' us'
    cases rn
    show wpAny _ _ (call (.ref C) [v']) _ _ _
    have hlim := I1.nolimit
    obtain ⟨hp, g, dr, tk, os⟩ := s1
    refine wpAny_call (PySem.WhX.wh_made T I1.kIn hlim (by have := hr.dp; omega) fun h' tk' e d M => ?_)
    show MkP X pins σ Q (.ref e) ⟨h', g, dr, tk', os⟩
    obtain ⟨oe, fv, hoe, hc, hd, hdat, h1⟩ := M.obj
    have hns := M.ns
    obtain ⟨G', g1, g2⟩ := restrict h' fun b => decide (b ≠ e)
    have gk : ∀ b, b ≠ e → G'.get? b = h'.get? b := fun b hb => g1 b (decide_eq_true hb)
    have ge : G'.get? e = none := g2 e (by simp)
    have old : ∀ b o, hp.get? b = some o → G'.get? b = some o := fun b o q => (gk b (Nat.ne_of_lt (Nat.lt_of_lt_of_le (Heap.lt_size q) M.new))).trans (M.keep b o q)
    obtain ⟨mA, hns, hw⟩ := hns
    have ob : ObjOk X.prog X.w (upd H1 d (xw d v)) G' d (xw d v) := xw_ok (hns.at (fun o q => (gk d M.dne).trans q)) hw rv
    have J : Inv X pins σ (upd H1 d (xw d v)) ⟨G', g, dr, tk', os⟩ := I1.laid (t' := tk') old M.dbig ob
    refine ⟨e, oe, fv, ⟨G', g, dr, tk', os⟩, _, .ref C, some d, rfl, J, fun b o q => ?_, ge, hoe, ⟨hc, hd⟩, hdat, h1, ?_, rfl, I1.bare, raises_own T.exC T.tyC, q1 d (I1.hok.fresh M.dbig)⟩
    · by_cases hb : b = e
      · have q' : G'.get? b = some o := q
        rw [hb, ge] at q'; cases q'
      · exact (gk b hb).symm.trans q
    · rw [upd_ne (Ne.symm M.dne)]
      exact I1.hok.fresh M.new
/-- raise Low(e) -/
def tRaiseWh (C : Addr) (W : WX) (ta : TA) : TS := fun _ σ H => tMkWh C ta σ H fun cls d H' => W cls d σ H'
theorem ps_raiseWh {a : Expr} {ta : TA} {W : WX} {p pos pos2 : Pos} {k : Nat} (hc : X.calm = true) (T : PySem.WhX.WhTxt X.K X.mg nmC C fI) (hr : Room k X.A) (tk : Takes X W) (ha : PA X [a] ta) (hg : Gl X nmC) (hdb : (nmC == ("__debug__" : Str)) = false)
    (he : starEach (a :: []) X.env = (false, eval a X.env) :: starEach [] X.env := by rfl) (hpl : (backTo pos (starEach [] X.env)).any (·.1) = false := by rfl) :
    PS X (.Raise (some (.Call (.Name nmC p) [a] [] pos)) none pos2) (tRaiseWh C W ta) := ps_raise hc tk (pmk_wh T hr ha hg hdb he hpl)
/-- low.by, low the exception that the suite holds (at a; its class cls, its dict d) -/
def tByWh (C : Addr) (a : Addr) (cls : Value) (d : Option Addr) (te : TE) : TE := fun σ H Q => te σ H fun x H1 => x = .ref a ∧ cls = .ref C ∧ ∃ (dd : Addr) (v : V), d = some dd ∧ H1 dd = some (xw dd v) ∧ Q v H1
theorem pe_byWh {a : Addr} {oe : Obj} {cls : Value} {d : Option Addr} {pn : List (Addr × Obj)} {e : Expr} {te : TE} {pos : Pos} (T : PySem.WhX.WhTxt X.K X.mg nmC C fI) (hz : Zc cls d oe) (hf : ∃ vs, oe.data = .fields vs) (he : PE (X.suite a ((a, oe) :: pn)) e te)
    (hb : attributeBase e "what" X.env (eval e X.env) = eval e X.env := by rfl) :
    PE (X.suite a ((a, oe) :: pn)) (.Attribute e "what" pos) (tByWh C a cls d te) := by
  refine ⟨fun pins s σ H Q I h => ?_⟩
  refine attr_of hb (thn (he.run pins s σ H _ I h) fun u s1 hh => ?_)
  obtain ⟨x, H1, I1, rx, ex, ec, dd, v, ed, ea, q⟩ := hh
  subst ex
  obtain rfl : u = Value.ref a := rx
  subst ec
  subst ed
  obtain ⟨ha, _⟩ := I1.pin (a, oe) (List.mem_append_left _ List.mem_cons_self)
  obtain ⟨vs, hd⟩ := hf
  obtain ⟨mA, hns, hr⟩ := xw_at (I1.hok dd _ ea)
  obtain ⟨od, ho, hl⟩ := lookIn_ns hns
  obtain ⟨u, hu, ru⟩ := RelO.some_of (v := v) (o := mA "what") hr
  have J : PySem.W.InstAt s1.heap a oe C (some od) := ⟨ha, hz.1, by unfold PySem.W.notCls; rw [hd] <;> rfl, by rw [hz.2]; exact ho⟩
  exact HandSPX.exc_get I1.kIn J T.ga T.gg T.exC (PySem.W.findObj_own T.hdC T.noN rfl (by rw [hl, hu])) (handed_of ru) ⟨v, H1, I1.tok _, ru, q⟩
end
end L2
set_option maxHeartbeats 4000000
namespace Dn
open PySem PySem.Spec L2

/-! ## isinstance, all, ranges, slices -/
def tyName : PyData → Option String
  | .none => some "NoneType"
  | .bool _ => some "bool"
  | .int _ => some "int"
  | .str _ => some "str"
  | .list _ => some "list"
  | .tuple _ => some "tuple"
  | .dict _ => none
theorem tyOk {K : PySem.W.Frag} {C H : Hp} {x : V} {d : PyData} {T : String} (sm : Same C H) (h : Dp KD C x d) (e : tyName d = some T) : TyX K H x (.type T) := by
  cases h with
  | non => cases e; exact .base .non
  | bl b => cases e; exact .base (.bl b)
  | int i => cases e; exact .base (.int i)
  | str z => cases e; exact .base (.str z)
  | lst hs hd =>
    cases e
    rcases sm.seq hs with (z | ⟨o, z⟩) | ⟨o, its, n, hk, _⟩
    · exact .base (.lst z)
    · exact .base (.frz z)
    · cases hk
  | tup hs hd =>
    cases e
    rcases sameT sm hs with (z | ⟨o, z⟩) | ⟨o, its, n, hk, _⟩
    · exact .base (.tup z)
    · exact .fTuple z
    · cases hk
def isTy (T : String) (d : PyData) : Option Bool := match tyName d with
  | some U => kitB U T
  | none => none
/-- isinstance(e, T) -/
def mIsi (T : String) (m : Mi PyData) : Mi PyData := m.bind fun d => Mi.opt ((isTy T d).map PyData.bool)
section
variable {X : Cx} {W : WX} {P : Pn} {a b c e : Expr} {es : List Expr} {ma mb mc : Mi PyData} {pos : Pos}
theorem deIsi {x : Str} {Ts : String} {p1 p2 : Pos} (ha : DE X W P ma a) (hg : Gl X "isinstance") (hm : X.mg "isinstance" = none) (hg2 : Gl X x) (hm2 : X.mg x = none) (hv2 : bootBuiltins x = some (.type Ts))
    (hn2 : x ≠ "__name__" := by decide) (hd2 : (x == ("__debug__" : Str)) = false := by decide)
    (hs : starEach [a, .Name x p2] X.env = (false, eval a X.env) :: starEach [.Name x p2] X.env := by rfl) (hs2 : starEach [.Name x p2] X.env = (false, eval (.Name x p2) X.env) :: starEach [] X.env := by rfl)
    (hpl : (backTo pos (starEach [.Name x p2] X.env)).any (·.1) = false := by rfl) : DE X W P (mIsi Ts ma) (.Call (.Name "isinstance" p1) [a, .Name x p2] [] pos) := fun F hF =>
  peImp (pe_callB call_isi hg hm (by decide +kernel) (pa_cons (ha F hF) (pa_cons (pe_bltn (v := .ty Ts) hg2 hm2 hv2 rfl hn2 hd2) pa_nil hs2) hs) (by decide) (by decide) hs hpl) fun σ H Q ⟨C, ρ, R, h⟩ => ⟨C, ρ, R, (poBind h).imp fun x1 H1 ⟨C1, ρ1, d, s1, R1, d1, h1⟩ => by
    cases e1 : tyName d with
    | none =>
      simp only [isTy, e1, Option.map_none, Mi.opt] at h1
      exact h1.elim
    | some U =>
      cases e2 : kitB U Ts with
      | none =>
        simp only [isTy, e1, e2, Option.map_none, Mi.opt] at h1
        exact h1.elim
      | some k =>
        simp only [isTy, e1, e2, Option.map_some, Mi.opt] at h1
        exact ⟨x1, .ty Ts, _, _, k, rfl, .ty Ts, tyOk R1.ch d1 e1, kit_ty e2, poRet h1 R1 (.bl k)⟩⟩
def boolsOf : List PyData → Option (List Bool)
  | [] => some []
  | .bool i :: ds => (boolsOf ds).map (i :: ·)
  | _ :: _ => none
theorem boolsOk {C : Hp} : ∀ {ds : List PyData} {vs : List V} {ns : List Bool}, DpAll KD C vs ds → boolsOf ds = some ns → vs = ns.map V.bl
  | [], _, _, h, e => by
    cases h
    cases e
    rfl
  | d :: ds, _, ns, .cons h hs, e => by
    cases h with
    | bl i =>
      simp only [boolsOf, Option.map_eq_some_iff] at e
      obtain ⟨ms, e1, rfl⟩ := e
      rw [boolsOk hs e1]
      rfl
    | _ => cases e
def bAll : List PyData → Option PyData
  | [.list ds] => (boolsOf ds).map fun bs => .bool (bs.all id)
  | _ => none
theorem kAll (hc : X.calm = true) : CallR X (.builtin "all") (rDs bAll) := by
  intro pins s σ H xs us Q I r h
  obtain ⟨C, ds, d, e, sm, da, q⟩ := h
  cases da with
  | nil => cases e
  | cons d1 d2 =>
    cases d2 with
    | cons _ _ => cases d1 <;> cases e
    | nil =>
      cases d1 with
      | @lst p vs ds hs hd =>
        simp only [bAll, Option.map_eq_some_iff] at e
        obtain ⟨bs, e1, rfl⟩ := e
        have ev := boolsOk hd e1
        subst ev
        exact cr_all hc pins s σ H _ us Q I r ⟨p, bs, rfl, upL (sm.seq hs), q _ C H (Ext.refl sm) (.bl _)⟩
      | _ => cases e
/-- tuple(range(e)), list(range(e)) -/
theorem rgD (n : Int) : ∀ C, DpAll KD C (rgV 0 n) (ranged 0 n.toNat) := fun C => by
  have go : ∀ (l : List Nat), DpAll KD C (l.map fun (i : Nat) => V.int (0 + (i : Int))) (l.map fun (i : Nat) => PyData.int (0 + (i : Int))) := by
    intro l
    induction l with
    | nil => exact .nil
    | cons i l ih => exact .cons (.int _) ih
  have z := go (List.range n.toNat)
  unfold rgV ranged
  have e : (n - 0).toNat = n.toNat := by simp
  rw [e]
  exact z
def fRg : PyData → Option (List PyData)
  | .int n => if 0 ≤ n ∧ n ≤ 16777216 then some (ranged 0 n.toNat) else none
  | _ => none
def mTupRg (m : Mi PyData) : Mi PyData := m.bind fun d => Mi.opt ((fRg d).map PyData.tuple)
def mLstRg (m : Mi PyData) : Mi PyData := m.bind fun d => Mi.opt ((fRg d).map PyData.list)
theorem deTupRg {p1 p2 pos2 : Pos} (hc : X.calm = true) (hg : Gl X "tuple") (hm : X.mg "tuple" = none) (hgr : Gl X "range") (hmr : X.mg "range" = none) (ha : DE X W P ma a)
    (na : starEach [a] X.env = (false, eval a X.env) :: starEach [] X.env := by rfl) (nb : starEach [.Call (.Name "range" p2) [a] [] pos2] X.env = (false, eval (.Call (.Name "range" p2) [a] [] pos2) X.env) :: starEach [] X.env := by rfl) :
    DE X W P (mTupRg ma) (.Call (.Name "tuple" p1) [.Call (.Name "range" p2) [a] [] pos2] [] pos) := fun F hF =>
  peImp (pe_tupRg hc hg hm (prg_1 hgr hmr (ha F hF) na) nb) fun σ H Q ⟨C, ρ, R, h⟩ => ⟨C, ρ, R, (poBind h).imp fun x1 H1 ⟨C1, ρ1, d, s1, R1, d1, h1⟩ => by
    cases d1 with
    | int n =>
      simp only [fRg] at h1
      by_cases hn : 0 ≤ n ∧ n ≤ 16777216
      · simp only [if_pos hn, Option.map_some, Mi.opt] at h1
        refine ⟨n, rfl, ⟨by omega, by omega, by omega, by omega, by omega⟩, fun q hq => ?_⟩
        obtain ⟨y1, y2⟩ := coldT R1.ch hq (rgD n C1)
        exact h1 _ _ _ y1.cc (R1.grow y1) y2
      · simp only [if_neg hn, Option.map_none, Mi.opt] at h1
        exact h1.elim
    | _ => exact h1.elim⟩
theorem deLstRg {p1 p2 pos2 : Pos} (hc : X.calm = true) (hg : Gl X "list") (hm : X.mg "list" = none) (hgr : Gl X "range") (hmr : X.mg "range" = none) (ha : DE X W P ma a)
    (na : starEach [a] X.env = (false, eval a X.env) :: starEach [] X.env := by rfl) (nb : starEach [.Call (.Name "range" p2) [a] [] pos2] X.env = (false, eval (.Call (.Name "range" p2) [a] [] pos2) X.env) :: starEach [] X.env := by rfl) :
    DE X W P (mLstRg ma) (.Call (.Name "list" p1) [.Call (.Name "range" p2) [a] [] pos2] [] pos) := fun F hF =>
  peImp (pe_listRg hc hg hm (prg_1 hgr hmr (ha F hF) na) nb) fun σ H Q ⟨C, ρ, R, h⟩ => ⟨C, ρ, R, (poBind h).imp fun x1 H1 ⟨C1, ρ1, d, s1, R1, d1, h1⟩ => by
    cases d1 with
    | int n =>
      simp only [fRg] at h1
      by_cases hn : 0 ≤ n ∧ n ≤ 16777216
      · simp only [if_pos hn, Option.map_some, Mi.opt] at h1
        refine ⟨n, rfl, ⟨by omega, by omega, by omega, by omega, by omega⟩, fun q hq => ?_⟩
        obtain ⟨y1, y2⟩ := coldL R1.ch hq (rgD n C1)
        exact h1 _ _ _ y1.cc (R1.grow y1) y2
      · simp only [if_neg hn, Option.map_none, Mi.opt] at h1
        exact h1.elim
    | _ => exact h1.elim⟩
/-! ### slices -/
def cutD (xs : List PyData) (lo hi : Option Int) : List PyData := (xs.drop (HT.sIx xs.length 0 lo)).take (HT.sIx xs.length xs.length hi - HT.sIx xs.length 0 lo)
def fCut (lo hi : Option Int) : PyData → Option PyData
  | .list ds => some (.list (cutD ds lo hi))
  | .tuple ds => some (.tuple (cutD ds lo hi))
  | _ => none
def rCut (lo' hi' : Option Int) : V → Option Int → Option Int → Hp → VK → Prop := fun x lo hi H Q => ∃ C a d, lo = lo' ∧ hi = hi' ∧ fCut lo hi a = some d ∧ Same C H ∧ Dp KD C x a ∧ ∀ v C' H', Ext C H C' H' → Dp KD C' v d → Q v H'
theorem cutOk {C : Hp} {vs : List V} {ds : List PyData} (h : DpAll KD C vs ds) (lo hi : Option Int) : DpAll KD C (cutV vs lo hi) (cutD ds lo hi) := by
  unfold cutV cutD
  rw [dpaLen h]
  exact dpaTake _ (dpaDrop _ h)
def rCutA : V → Option Int → Option Int → Hp → VK → Prop := fun x lo hi H Q => ∃ C a d, fCut lo hi a = some d ∧ Same C H ∧ Dp KD C x a ∧ ∀ v C' H', Ext C H C' H' → Dp KD C' v d → Q v H'
theorem slCut : SlR X rCutA := by
  intro pins s σ H x v vl vu lo hi sl Q I rx hs pl pu h
  obtain ⟨C, a, d, e, sm, da, q⟩ := h
  cases da with
  | @lst p vs ds hq hd =>
    cases e
    refine sl_list pins s σ H _ v vl vu lo hi sl Q I rx hs pl pu ⟨p, vs, rfl, upL (sm.seq hq), fun r hr => ?_⟩
    obtain ⟨y1, y2⟩ := coldL sm hr (cutOk hd lo hi)
    exact q _ _ _ y1 y2
  | @tup p vs ds hq hd =>
    cases e
    refine sl_tupA pins s σ H _ v vl vu lo hi sl Q I rx hs pl pu ⟨p, vs, rfl, upT (sameT sm hq), fun hw => ?_, fun _ r hr => ?_⟩
    · have ew : cutD ds lo hi = ds := by
        unfold cutD
        rw [← dpaLen hd, hw.1, hw.2, dpaLen hd]
        simp
      rw [ew] at q
      exact q _ C H (Ext.refl sm) (.tup hq hd)
    · obtain ⟨y1, y2⟩ := coldT sm hr (cutOk hd lo hi)
      exact q _ _ _ y1 y2
  | _ => cases e
/-- a part of a slice -/
def RelO' : L2.St → Hp → Option Int → Option Int → Prop := fun _ _ b a => b = a
def DO (X : Cx) (W : WX) (P : Pn) (m : Mi (Option Int)) (o : Option Expr) : Prop := ∀ F : Fr0, FOk F P → PO X o (tM X F W RelO' m)
theorem doNone : DO X W P (Mi.ret none) none := fun F _ => ⟨fun pins s σ H Q I ⟨C, ρ, R, p⟩ => po_none.run pins s σ H Q I (poRet (Rel := RelO') p R rfl)⟩
def mPart (m : Mi PyData) : Mi (Option Int) := m.bind fun d => match d with
  | .int i => Mi.ret (some i)
  | _ => fun _ => .bad
theorem doSome (h : DE X W P ma a) : DO X W P (mPart ma) (some a) := fun F hF => ⟨fun pins s σ H Q I ⟨C, ρ, R, p⟩ => (po_some (h F hF)).run pins s σ H Q I ⟨C, ρ, R, (poBind p).imp fun x1 H1 ⟨C1, ρ1, d, s1, R1, d1, h1⟩ => by
    cases d1 with
    | int i => exact ⟨i, rfl, poRet h1 R1 rfl⟩
    | _ => exact h1.elim⟩⟩
def mCut (ma : Mi PyData) (ml mh : Mi (Option Int)) : Mi PyData := ma.bind fun d => ml.bind fun lo => mh.bind fun hi => Mi.opt (fCut lo hi d)
theorem deCut {lo hi : Option Expr} {ml mh : Mi (Option Int)} {p2 : Pos} (ha : DE X W P ma a) (hl : DO X W P ml lo) (hh : DO X W P mh hi) : DE X W P (mCut ma ml mh) (.Subscript a (.Slice lo hi none p2) pos) := fun F hF =>
  peImp (pe_slice slCut (ha F hF) (hl F hF) (hh F hF)) fun σ H Q ⟨C, ρ, R, p⟩ => ⟨C, ρ, R, (poBind p).imp fun x1 H1 ⟨C1, ρ1, d, s1, R1, d1, h1⟩ => ⟨C1, ρ1, R1, (poBind h1).imp fun l H2 ⟨C2, ρ2, l', s2, R2, d2, h2⟩ => ⟨C2, ρ2, R2, (poBind h2).imp fun u H3 ⟨C3, ρ3, u', s3, R3, d3, h3⟩ => by
    have d2' : l = l' := d2
    have d3' : u = u' := d3
    subst d2' d3'
    cases e : fCut l u d with
    | none =>
      simp only [e, Mi.opt] at h3
      exact h3.elim
    | some z =>
      simp only [e, Mi.opt] at h3
      exact ⟨C3, d, z, e, R3.ch, dpMono (s2.trans s3) d1, fun v C' H' ex dv => h3 v C' H' ex.cc (R3.grow ex) dv⟩⟩⟩⟩
/-! ### a slot's list read where it stands -/
/-- xs[e], xs a name -/
def mIxV (i : Nat) (mi : Mi PyData) : Mi PyData := fun r => match hotOf r i with
  | some _ => (mi.bind fun k r' => match hotOf r' i with
    | some xs => match fIx (.list xs) k with
      | some d => .ok d r'
      | none => .bad
    | none => .bad) r
  | none => match r[i]? with
    | some (some (.val d)) => (mi.bind fun k => Mi.opt (fIx d k)) r
    | _ => .bad
theorem deIxV {i : Nat} {x : Str} {p : Pos} {mi : Mi PyData} (hv : PE X (.Name x p) (tVar i)) (hb : DE X W P mi b) (hs : PlainIx b) : DE X W P (mIxV i mi) (.Subscript (.Name x p) b pos) := fun F hF =>
  peImp (pe_ix ix_seq hv (hb F hF) hs) fun σ H Q ⟨C, ρ, R, h⟩ => by
    unfold mIxV at h
    cases e1 : hotOf ρ i with
    | some xs =>
      rw [e1] at h
      obtain ⟨a, vs, ea, _⟩ := R.hotAt (hotOf_eq e1)
      refine ⟨.ref a, ea, C, ρ, R, (poBind (Rel1 := RelD X) h).imp fun y H2 ⟨C2, ρ2, k, s2, R2, d2, h2⟩ => ?_⟩
      cases e2 : hotOf ρ2 i with
      | none =>
        simp only [e2] at h2
        exact h2.elim
      | some ys =>
        simp only [e2] at h2
        cases e3 : fIx (.list ys) k with
        | none =>
          simp only [e3] at h2
          exact h2.elim
        | some d =>
          simp only [e3] at h2
          obtain ⟨a', ws, ea', g1, g2, g3⟩ := R2.hotAt (hotOf_eq e2)
          rw [ea] at ea'
          cases ea'
          cases d2 with
          | int n =>
            obtain ⟨w, f1, f2⟩ := atOk g3 e3
            exact .inl ⟨a, ws, n, w, rfl, rfl, SqL.of g2, f1, poRet h2 R2 f2⟩
          | _ => cases e3
    | none =>
      rw [e1] at h
      cases e2 : ρ[i]? with
      | none =>
        rw [e2] at h
        exact h.elim
      | some o =>
        cases o with
        | none =>
          rw [e2] at h
          exact h.elim
        | some en =>
          cases en with
          | hot zs =>
            rw [e2] at h
            exact h.elim
          | val d =>
            rw [e2] at h
            obtain ⟨v, e3, dv⟩ := R.sl i _ e2
            refine ⟨v, e3, C, ρ, R, (poBind (Rel1 := RelD X) h).imp fun y H2 ⟨C2, ρ2, k, s2, R2, d2, h2⟩ => ?_⟩
            cases e4 : fIx d k with
            | none =>
              simp only [e4, Mi.opt] at h2
              exact h2.elim
            | some d' =>
              simp only [e4, Mi.opt] at h2
              have dv2 := dpMono (s2.trans R2.ch) (show Dp KD C v d from dv)
              have dv1 := dpMono s2 (show Dp KD C v d from dv)
              cases dv with
              | @lst p vs ds hs hd =>
                cases d2 with
                | int n =>
                  obtain ⟨w, f1, f2⟩ := atOk (dpaMono s2 hd) e4
                  exact .inl ⟨p, vs, n, w, rfl, rfl, upL ((s2.trans R2.ch).seq hs), f1, poRet h2 R2 f2⟩
                | _ => cases e4
              | @tup p vs ds hs hd =>
                cases d2 with
                | int n =>
                  obtain ⟨w, f1, f2⟩ := atOk (dpaMono s2 hd) e4
                  exact .inr (.inl ⟨p, vs, n, w, rfl, rfl, upT (sameT (s2.trans R2.ch) hs), f1, poRet h2 R2 f2⟩)
                | _ => cases e4
              | str z =>
                cases d2 with
                | int n =>
                  simp only [fIx] at e4
                  split at e4
                  · rename_i hl
                    obtain ⟨c, f1, rfl⟩ := Option.map_eq_some_iff.mp e4
                    exact .inr (.inr ⟨z, n, c, rfl, rfl, lineLe hl, f1, poRet h2 R2 (.str _)⟩)
                  · cases e4
                | _ => cases e4
              | _ => cases d2 <;> cases e4
/-- len(xs), xs a name -/
def mLenV (i : Nat) : Mi PyData := fun r => match hotOf r i with
  | some xs => .ok (.int (xs.length : Nat)) r
  | none => match r[i]? with
    | some (some (.val d)) => Mi.opt (bLen [d]) r
    | _ => .bad
theorem deLenV {i : Nat} {x : Str} {p p2 : Pos} (hv : PE X (.Name x p) (tVar i)) (hg : Gl X "len") (hm : X.mg "len" = none) (hs : starEach [.Name x p] X.env = (false, eval (.Name x p) X.env) :: starEach [] X.env := by rfl)
    (hpl : (backTo pos (starEach [] X.env)).any (·.1) = false := by rfl) : DE X W P (mLenV i) (.Call (.Name "len" p2) [.Name x p] [] pos) := fun F hF =>
  peImp (pe_callB call_len_seq hg hm PySem.boot_len (pa_cons hv pa_nil hs) (by decide) (by decide) hs hpl) fun σ H Q ⟨C, ρ, R, h⟩ => by
    unfold mLenV at h
    cases e1 : hotOf ρ i with
    | some xs =>
      rw [e1] at h
      obtain ⟨a, vs, ea, g1, g2, g3⟩ := R.hotAt (hotOf_eq e1)
      refine ⟨.ref a, ea, a, vs, rfl, .inl (SqL.of g2), ?_⟩
      rw [dpaLen g3]
      exact poRet h R (.int _)
    | none =>
      rw [e1] at h
      cases e2 : ρ[i]? with
      | none =>
        rw [e2] at h
        exact h.elim
      | some o =>
        cases o with
        | none =>
          rw [e2] at h
          exact h.elim
        | some en =>
          cases en with
          | hot zs =>
            rw [e2] at h
            exact h.elim
          | val d =>
            rw [e2] at h
            obtain ⟨v, e3, dv⟩ := R.sl i _ e2
            cases e4 : bLen [d] with
            | none =>
              simp only [e4, Mi.opt] at h
              exact h.elim
            | some d' =>
              simp only [e4, Mi.opt] at h
              cases dv with
              | @lst q vs ds hs hd =>
                cases e4
                refine ⟨_, e3, q, vs, rfl, .inl (upL (R.ch.seq hs)), ?_⟩
                rw [dpaLen hd]
                exact poRet h R (.int _)
              | @tup q vs ds hs hd =>
                cases e4
                refine ⟨_, e3, q, vs, rfl, .inr (upT (sameT R.ch hs)), ?_⟩
                rw [dpaLen hd]
                exact poRet h R (.int _)
              | _ => cases e4
/-! ### raise -/
def sRaise (c : Str) (m : Mi PyData) : Rho → Fl := sBind m fun d r => .ex c d r
theorem dsRaise {nm : Str} {Cl fI : Addr} {k : Nat} {p pos2 : Pos} (hc : X.calm = true) (T : PySem.WhX.WhTxt X.K X.mg nm Cl fI) (hr : Room k X.A) (tk : Takes X W) (ha : DE X W P ma a) (hg : Gl X nm) (hdb : (nm == ("__debug__" : Str)) = false)
    (he : starEach (a :: []) X.env = (false, eval a X.env) :: starEach [] X.env := by rfl) (hpl : (backTo pos (starEach [] X.env)).any (·.1) = false := by rfl) :
    DS X W P (sRaise nm ma) (.Raise (some (.Call (.Name nm p) [a] [] pos)) none pos2) := fun F hF =>
  psImp (ps_raiseWh hc T hr tk (daCons ha daNil he F hF) hg hdb he hpl) fun D σ H ⟨C, ρ, R, h⟩ => by
    refine ⟨C, ρ, R, ?_⟩
    have h' := posBind (Rel1 := RelD X) (σ := σ) h
    unfold mCons Mi.bind
    cases e : ma ρ with
    | bad =>
      rw [e] at h'
      exact h'
    | ex c w r =>
      rw [e] at h'
      exact h'
    | ok d r =>
      rw [e] at h'
      intro vs C1 H1 s1 R1 dv
      have dw := dv.1
      cases dw with
      | @cons v vs d ds dv1 dn =>
        cases dn
        refine ⟨v, rfl, fun q hq => ?_⟩
        obtain ⟨C2, r2, d2, s2, R2, dd2, q2⟩ := h' v C1 H1 s1 R1 dv1
        have ex : Ext C2 H1 (upd C2 q (xw q v)) (upd H1 q (xw q v)) := Ext.new R2.ch hq
        exact q2 σ Cl q v _ _ T.gC ex.cc (R2.grow ex) upd_same (dpMono ex.cc dd2)
end
end Dn
set_option maxHeartbeats 4000000
namespace Dn
open PySem PySem.Spec PyProof.Rows L2

/-! ## enumerate over a tuple -/
set_option maxHeartbeats 8000000 in
theorem newEnumT (l : Addr) (vals : Array Value) (n : Nat) (dd : Option Addr) (sl : Array (Option Value)) :
    Meets (Builtin.«enumerate.__new__» ⟨[.type "enumerate", .ref l], []⟩) (fun _ R s => s.heap.get? l = some { cls := .type "tuple", dict := dd, data := .seq vals n, slots := sl } ∧
      R (.ok (.ret (.ref (s.heap.push { cls := .type "tuple_iterator", data := .fields #[.ref l, .int 0 0] }).objs.size)))
        { s with heap := (s.heap.push { cls := .type "tuple_iterator", data := .fields #[.ref l, .int 0 0] }).push { cls := .type "enumerate", data := .fields #[.none, .bool false, .ref s.heap.objs.size, rawInt 0, .none, .none] } }) :=
  .of_wp fun prog w A R s hh => by
    obtain ⟨hp, g, dr, tk, os⟩ := s
    obtain ⟨hl, hr⟩ := hh
    have subE := sub_enumerate
    have isT : Heap.IsTuple (Shared.heap ⟨hp, g, dr, tk, os⟩) l vals := ⟨_, hl, rfl, n, rfl⟩
    wp_walk using wpAny_loadPart' hl
    refine wpAny_stack_any fun st => wpAny_pure ?_
    split
    · rename_i c _ _ _ _ _
      cases (c == Value.type "enumerate") with
      | true =>
        wp_walk using wpAny_loadPart' hl, wpAny_pyIter_tuple isT
        exact ⟨_, rfl, hr⟩
      | false =>
        wp_walk using wpAny_loadPart' hl, wpAny_pyIter_tuple isT
        exact ⟨_, rfl, hr⟩
    · wp_walk using wpAny_loadPart' hl, wpAny_pyIter_tuple isT
      exact ⟨_, rfl, hr⟩
theorem callEnumT {prog : Program} {w : World} {A : Around} {E : Value → Shared → Prop} {s : Shared} {l : Addr} {vals : Array Value} {Q : Value → Shared → Prop} (hT : s.heap.IsTuple l vals)
    (h : ∀ h', IsEnum h' (s.heap.objs.size + 1) s.heap.objs.size 0 .none → h'.IsTupleIter s.heap.objs.size l 0 → (∀ b o, s.heap.get? b = some o → h'.get? b = some o) → Q (.ref (s.heap.objs.size + 1)) { s with heap := h' }) :
    wpAny (model prog w) A (call (.type "enumerate") [.ref l]) Q E s := by
  obtain ⟨⟨c, dd, dt, sl⟩, hl, hc, n, hd⟩ := hT
  simp only at hc hd
  subst hc hd
  refine callType_new F.called_enumerate (by decide) (F.typeCall_enumerate_1 _) (F.newCall_enumerate_1 _) (fun obj => F.args_object_init_2 obj _) F.entry_enumerate_new (newEnumT l vals n dd sl) ⟨hl, ?_⟩
  have sz : (s.heap.push { cls := .type "tuple_iterator", data := .fields #[.ref l, .int 0 0] }).objs.size = s.heap.objs.size + 1 := Heap.size_push ..
  show _ ∧ _
  rw [sz]
  have isE : IsEnum ((s.heap.push { cls := .type "tuple_iterator", data := .fields #[.ref l, .int 0 0] }).push { cls := .type "enumerate", data := .fields #[.none, .bool false, .ref s.heap.objs.size, rawInt 0, .none, .none] })
      (s.heap.objs.size + 1) s.heap.objs.size 0 .none := by
    have q := Heap.get?_push_size (s.heap.push { cls := .type "tuple_iterator", data := .fields #[.ref l, .int 0 0] }) (o := { cls := .type "enumerate", data := .fields #[.none, .bool false, .ref s.heap.objs.size, rawInt 0, .none, .none] }) rfl
    rw [sz] at q
    exact q
  exact ⟨⟨_, isE, rfl⟩, h _ isE ⟨_, Heap.get?_push_of_some _ (Heap.get?_push_size _ rfl), rfl, rfl⟩ fun b o q => Heap.get?_push_of_some _ (Heap.get?_push_of_some _ q)⟩
def ItET (K : PySem.W.Frag) (a : Addr) : It where
  go := fun i H => ∃ (xs : List V) (x : V), SqT K H a xs ∧ xs[i]? = some x
  yld := fun i H v H' => ∃ T x, v = .ref T ∧ H T = none ∧ H' = upd H T (.tup [.int (i : Nat), x]) ∧ ∀ xs, SqT K H a xs → xs[i]? = some x
  stop := fun i H => ∃ xs : List V, SqT K H a xs ∧ xs.length ≤ i
theorem turnET {P : Program} {w : World} {K : PySem.W.Frag} {elts : List Expr} {kk : Nat} {tpos : Pos} (a e it : Addr) :
    Turn P w K (.Tuple elts kk tpos) (ItET K a) [e, it] e (fun i h => (∃ old, IsEnum h e it ((i : Nat) : Int) old) ∧ h.IsTupleIter it a i ∧ e ≠ it) where
  mem := List.mem_cons_self
  obj := by
    intro i h st b hb
    obtain ⟨⟨old, he⟩, ⟨o, ho, hc, hd⟩, _⟩ := st
    simp only [List.mem_cons, List.not_mem_nil, or_false] at hb
    rcases hb with rfl | rfl
    · exact ⟨_, he, fun v q => nomatch q⟩
    · exact ⟨o, ho, fun v q => by rw [hd] at q; cases q⟩
  keep := by
    intro i h h' st k
    obtain ⟨⟨old, he⟩, hi, hne⟩ := st
    exact ⟨⟨old, k e (by simp) _ he⟩, hi.at fun o q => k it (by simp) o q, hne⟩
  item := by
    intro X hP hw hK hc i pins s σ H E I hf st hg
    subst hP hw hK
    obtain ⟨⟨old, he⟩, hit, hne⟩ := st
    obtain ⟨xs, x, hq, hx⟩ := hg
    obtain ⟨its, rv, isT, hz⟩ := I.tuple hq
    obtain ⟨u, hu, ru⟩ := rv.get hx
    have nea : a ≠ it := fun z => by
      obtain ⟨o1, e1, c1, _⟩ := id isT
      obtain ⟨o2, e2, c2, _⟩ := id hit
      rw [z, e2] at e1
      cases e1
      have c3 := c1.symm.trans c2
      injection c3 with c4
      exact absurd c4 (by decide)
    have nee : e ≠ a := fun z => by
      obtain ⟨o1, e1, c1, _⟩ := id isT
      have e2 : s.heap.get? e = some _ := he
      rw [z, e1] at e2
      have e3 := Option.some.inj e2
      rw [e3] at c1
      injection c1 with c4
      exact absurd c4 (by decide)
    have lte : e < s.heap.objs.size := Heap.lt_size he
    have ltit : it < s.heap.objs.size := by
      obtain ⟨_, q, _⟩ := hit
      exact Heap.lt_size q
    have hlt : i < its.toArray.size := by
      have l1 := rv.length
      have l2 := (List.getElem?_eq_some_iff.mp hx).1
      simp only [List.size_toArray]
      omega
    have DD : Draws X.prog X.w X.A.in1 it [it, a] its.toArray.size (fun i v => its.toArray[i]? = some v) (fun i h => h.IsTupleIter it a i ∧ h.IsTuple a its.toArray) :=
      Draws.tuple (A := X.A.in1) (I.ok.hd hc) it a nea its.toArray
    refine wpAny_pyNext_enum_itemD DD he ⟨hit, isT⟩ hlt hne (by simp [hne, nee]) fun x' h' tk hx' ho hst hT hsz hk => ?_
    have ex : x' = u := by
      have q : its.toArray[i]? = some u := by simpa using hu
      rw [q] at hx'
      exact (Option.some.inj hx').symm
    subst ex
    refine ⟨_, rfl, wpAny_letOwnedTupleGo_enum (s := { s with heap := h', toks := tk + 1 }) ho fun h2 he2 sb => ?_⟩
    have hT2 : h2.get? s.heap.objs.size = some { cls := .type "tuple", data := .seq #[.int i tk, x'] } := (sb.2 _ (Nat.ne_of_gt lte)).trans hT
    have new : ObjOk X.prog X.w (upd H s.heap.objs.size (.tup [.int (i : Nat), x])) h2 s.heap.objs.size (.tup [.int (i : Nat), x]) :=
      ⟨lineLe (show 2 ≤ 16777216 by decide), [.int i tk, x'], .cons ⟨_, rfl⟩ (.cons ru .nil), ⟨_, hT2, rfl, _, rfl⟩⟩
    have kk2 : ∀ b ob, b ∉ [e, it] → s.heap.get? b = some ob → h2.get? b = some ob := fun b ob hb q => by
      have n1 : b ≠ e := fun z => hb (by rw [z]; exact List.mem_cons_self)
      have n2 : b ≠ it := fun z => hb (by rw [z]; exact List.mem_cons_of_mem _ List.mem_cons_self)
      exact (sb.2 b n1).trans (hk b ob n1 n2 q)
    have I1 : Inv X pins σ (upd H s.heap.objs.size (.tup [.int (i : Nat), x])) { s with heap := h2, toks := tk + 1 } := I.turnedNew (ch := [e, it]) kk2 hf (Nat.le_refl _) new
    refine ⟨.ref s.heap.objs.size, _, I1, rfl, ⟨_, x, rfl, I.hok.fresh (Nat.le_refl _), rfl, fun ys hy => by rw [I.tuple_inj hy hq]; exact hx⟩, ⟨⟨x', ?_⟩, hst.1.at fun o q => (sb.2 it (Ne.symm hne)).trans q, hne⟩, fun b hb => ?_⟩
    · have e1 : ((i + 1 : Nat) : Int) = (i : Int) + 1 := by omega
      rw [e1]
      exact he2
    · have hb2 : b < s.heap.objs.size := by
        simp only [List.mem_cons, List.not_mem_nil, or_false] at hb
        rcases hb with rfl | rfl
        · exact lte
        · exact ltit
      rw [upd_ne (Nat.ne_of_lt hb2)]
      exact (hf b hb).1
  done := by
    intro X hP hw hK hc i pins s σ H E I hf st hg
    subst hP hw hK
    obtain ⟨⟨old, he⟩, hit, hne⟩ := st
    obtain ⟨xs, hq, hx⟩ := hg
    obtain ⟨its, rv, isT, hz⟩ := I.tuple hq
    have l1 := rv.length
    obtain ⟨f0, f1, f2, f3, f4, f5⟩ := hf it (by simp)
    have hT : s.TypeIs (.ref e) "enumerate" := ⟨_, he, rfl⟩
    unfold pyNext
    refine wpAny_bind (wpAny_attempt (wpAny_callSpecial?_slot (name := Str.ofString "__next__") hT F.slot_enumerate_next (wpAny_call_entry F.slot_enumerate_next hT F.entry_enumerate_next ?_ (F.args_enumerate_next_1 _))))
    show wpAny _ _ (field (.ref e) 2 >>= _) _ _ _
    refine wpAny_bind (wpAny_field he rfl (x := .ref it) rfl ?_)
    refine wpAny_bind (PySem.wpAny_nextOf_tuple_end (I.ok.hd hc) hit isT (by simp; omega) fun h' x eb hx' => ?_)
    obtain ⟨o, ho, hco⟩ := hx'
    refine wpAny_bind (wpAny_isInstance (T := "StopIteration") (b := true) ⟨o, ho, hco⟩ isSubtype_stop ?_)
    exact wpAny_pure ⟨rfl, I.turned (t' := s.toks) (fun b o hb q => eb b o hb q) f0 f1 f3 f4 f5⟩
  self := by
    intro A i s Q E st h
    obtain ⟨⟨_, he⟩, _⟩ := st
    exact wpAny_pyIter_enum he h
def iEnumT (K : PySem.W.Frag) (ta : TA) : TI := fun σ H R => ta σ H fun vs H1 => ∃ a xs, vs = [.ref a] ∧ SqT K H1 a xs ∧ R (ItET K a) H1
theorem piEnumT {X : Cx} {e : Expr} {ta : TA} {p pos tpos : Pos} {elts : List Expr} {kk : Nat} (hg : Gl X "enumerate") (hm : X.mg "enumerate" = none) (ha : PA X [e] ta) (hs : starEach [e] X.env = [(false, eval e X.env)] := by rfl) :
    PI X (.Tuple elts kk tpos) (.Call (.Name "enumerate" p) [e] [] pos) (iEnumT X.K ta) := by
  constructor
  intro pins s σ H R I h
  refine Call_ (ld_blt I hg hm boot_enumerate (callWith_type1 (thn (ha.run pos pins s σ H _ I h) ?_) hs rfl))
  intro us s1 hh
  obtain ⟨vs, H1, I1, r1, a, xs, ex, hq, q⟩ := hh
  subst ex
  have eu := Vals.ref1 r1
  subst eu
  obtain ⟨its, rv, isT, hz⟩ := I1.tuple hq
  refine callEnumT isT fun h' he hit hk => wpAny_pyIter_enum he ?_
  have I2 : Inv X pins σ H1 { s1 with heap := h' } := I1.kept (t' := s1.toks) hk
  refine ⟨s1.heap.objs.size + 1, [s1.heap.objs.size + 1, s1.heap.objs.size], _, _, H1, rfl, I2, turnET a (s1.heap.objs.size + 1) s1.heap.objs.size, ⟨⟨.none, he⟩, hit, Nat.succ_ne_self _⟩, fun b hb => ?_, q⟩
  have hle : s1.heap.objs.size ≤ b := by
    simp only [List.mem_cons, List.not_mem_nil, or_false] at hb
    rcases hb with rfl | rfl
    · exact Nat.le_succ _
    · exact Nat.le_refl _
  exact I1.fpOk hle (I1.hok.fresh hle)
def enumD : Nat → List PyData → List PyData
  | _, [] => []
  | k, d :: ds => .tuple [.int (k : Nat), d] :: enumD (k + 1) ds
theorem enumD_len : ∀ (ds : List PyData) (k : Nat), (enumD k ds).length = ds.length
  | [], _ => rfl
  | _ :: ds, k => congrArg (· + 1) (enumD_len ds (k + 1))
theorem enumD_get : ∀ (ds : List PyData) (k i : Nat) (d : PyData), (enumD k ds)[i]? = some d → ∃ z, ds[i]? = some z ∧ d = .tuple [.int ((k + i : Nat) : Int), z]
  | [], _, _, _, h => by simp [enumD] at h
  | z :: ds, k, 0, d, h => by
    simp only [enumD, List.getElem?_cons_zero, Option.some.injEq] at h
    exact ⟨z, rfl, h.symm⟩
  | z :: ds, k, i + 1, d, h => by
    simp only [enumD, List.getElem?_cons_succ] at h
    obtain ⟨y, h1, h2⟩ := enumD_get ds (k + 1) i d h
    refine ⟨y, by simpa using h1, ?_⟩
    rw [h2]
    have e : k + 1 + i = k + (i + 1) := by omega
    rw [e]
def mEnum (m : Mi PyData) : Mi (List PyData) := m.bind fun d => Mi.opt ((items d).map (enumD 0))
theorem pairDp {C H : Hp} {T : Addr} {i : Nat} {x : V} {z : PyData} (sm : Same C H) (hn : H T = none) (hd : Dp KD C x z) :
    Ext C H (upd C T (.tup [.int (i : Nat), x])) (upd H T (.tup [.int (i : Nat), x])) ∧ Dp KD (upd C T (.tup [.int (i : Nat), x])) (.ref T) (.tuple [.int ((0 + i : Nat) : Int), z]) := by
  have e : 0 + i = i := by omega
  rw [e]
  exact coldT sm hn (.cons (.int _) (.cons hd .nil))
theorem itersET {K : PySem.W.Frag} {C : Hp} {a : Addr} {vs : List V} {ds : List PyData} (h : SqT K C a vs) (hd : DpAll KD C vs ds) : Iters KD C (ItET K a) (enumD 0 ds) where
  go := fun i d C2 H2 e s1 s2 => by
    obtain ⟨z, e1, _⟩ := enumD_get ds 0 i d e
    obtain ⟨v, ev, _⟩ := dpaGet hd e1
    exact ⟨vs, v, sameT (s1.trans s2) h, ev⟩
  yld := fun i d C2 H2 x H3 e s1 s2 y => by
    obtain ⟨z, e1, rfl⟩ := enumD_get ds 0 i d e
    obtain ⟨v, ev, dv⟩ := dpaGet hd e1
    obtain ⟨T, x', rfl, hn, rfl, y⟩ := y
    have q := y vs (sameT (s1.trans s2) h)
    rw [ev] at q
    cases q
    obtain ⟨g1, g2⟩ := pairDp (i := i) s2 hn (dpMono s1 dv)
    exact ⟨_, g1, g2⟩
  stop := fun C2 H2 s1 s2 => ⟨vs, sameT (s1.trans s2) h, by rw [enumD_len]; exact Nat.le_of_eq (dpaLen hd)⟩
theorem itersEL {K : PySem.W.Frag} {C : Hp} {a : Addr} {vs : List V} {ds : List PyData} (h : SqL K C a vs) (hd : DpAll KD C vs ds) : Iters KD C (Ite K a) (enumD 0 ds) where
  go := fun i d C2 H2 e s1 s2 => by
    obtain ⟨z, e1, _⟩ := enumD_get ds 0 i d e
    obtain ⟨v, ev, _⟩ := dpaGet hd e1
    exact ⟨vs, v, (s1.trans s2).seq h, ev⟩
  yld := fun i d C2 H2 x H3 e s1 s2 y => by
    obtain ⟨z, e1, rfl⟩ := enumD_get ds 0 i d e
    obtain ⟨v, ev, dv⟩ := dpaGet hd e1
    obtain ⟨T, x', rfl, hn, rfl, y⟩ := y
    have q := y vs ((s1.trans s2).seq h)
    rw [ev] at q
    cases q
    obtain ⟨g1, g2⟩ := pairDp (i := i) s2 hn (dpMono s1 dv)
    exact ⟨_, g1, g2⟩
  stop := fun C2 H2 s1 s2 => ⟨vs, (s1.trans s2).seq h, by rw [enumD_len]; exact Nat.le_of_eq (dpaLen hd)⟩
theorem diEnum {X : Cx} {W : WX} {P : Pn} {a : Expr} {ma : Mi PyData} {pos p tpos : Pos} {elts : List Expr} {kk : Nat} (hg : Gl X "enumerate") (hm : X.mg "enumerate" = none) (ha : DE X W P ma a)
    (hs : starEach [a] X.env = [(false, eval a X.env)] := by rfl) : DI X W P (mEnum ma) (.Tuple elts kk tpos) (.Call (.Name "enumerate" p) [a] [] pos) := fun F hF => by
  have hl := pi_enum (tpos := tpos) (elts := elts) (kk := kk) (p := p) (pos := pos) hg hm (daCons ha daNil hs F hF) hs
  have ht := piEnumT (tpos := tpos) (elts := elts) (kk := kk) (p := p) (pos := pos) hg hm (daCons ha daNil hs F hF) hs
  constructor
  intro pins s σ H R I hw
  obtain ⟨C, ρ, RR, p⟩ := hw
  unfold mEnum Mi.bind at p
  cases em : ma ρ with
  | bad =>
    rw [em] at p
    exact p.elim
  | ex c w r =>
    rw [em] at p
    refine hl.run pins s σ H R I ⟨C, ρ, RR, ?_⟩
    unfold mCons Mi.bind
    rw [em]
    exact p
  | ok d r =>
    rw [em] at p
    cases d with
    | list ds =>
      refine hl.run pins s σ H R I ⟨C, ρ, RR, ?_⟩
      unfold mCons Mi.bind
      rw [em]
      intro vs C1 H1 s1 R1 dv
      have dw := dv.1
      cases dw with
      | cons d1 d2 =>
        cases d2
        cases d1 with
        | lst hs hd =>
          obtain ⟨_, _, p⟩ := p
          exact ⟨_, _, rfl, R1.ch.seq (upL hs), p _ C1 H1 s1 R1 (itersEL (upL hs) hd)⟩
    | tuple ds =>
      refine ht.run pins s σ H R I ⟨C, ρ, RR, ?_⟩
      unfold mCons Mi.bind
      rw [em]
      intro vs C1 H1 s1 R1 dv
      have dw := dv.1
      cases dw with
      | cons d1 d2 =>
        cases d2
        cases d1 with
        | tup hs hd =>
          obtain ⟨_, _, p⟩ := p
          exact ⟨_, _, rfl, sameT R1.ch (upT hs), p _ C1 H1 s1 R1 (itersET (upT hs) hd)⟩
    | _ => exact p.elim
end Dn
set_option maxHeartbeats 4000000
/-! ## isinstance of a caught error that has a dict of its own -/
namespace PySem.W
open PySem PySem.Spec PySem.Calls PyProof.Rows
section
variable {prog : Program} {w : World} {A : Around} {E : Value → Shared → Prop} {s : Shared} {K : Frag} {x Cl : Addr} {ox od : Obj}
theorem findDataD {name : Str} {a g : Value} (hc : (clsIn K Cl).isSome = true) (ha : findIn K (.ref Cl) name = some (some a)) (hg : specialIn K a "__get__" = some (some g)) (ht : takesIn K a = some true) : findObj K Cl (some od) name = some (.bind g a) := by
  obtain ⟨cdl, hcl⟩ := Option.isSome_iff_exists.mp hc
  unfold findObj; rw [hcl, Option.bind_some, ha, Option.bind_some]; simp [hg, ht]
/-- what the class tells of its errors -/
structure ErrC (K : Frag) (Cl : Addr) : Prop where
  hg : findIn K (.ref Cl) "__getattribute__" = some (some (.builtin "BaseException.__getattribute__"))
  hk : findIn K (.ref Cl) "__getattr__" = some none
  hs : subIn K (.ref Cl) (.type "BaseException") = some true
  hd : hasDictIn K Cl = true
  ha : findIn K (.ref Cl) "__class__" = some (some (.builtin "object.__class__"))
  hn : specialIn K (.builtin "object.__class__") "__get__" = some (some (.builtin "getset_descriptor.__get__"))
  ht : takesIn K (.builtin "object.__class__") = some true
  hm : mroIn K Cl (.type "object") = some true
theorem askClassD {Q : Option Value → Shared → Prop} (T : ErrC K Cl) (X : K.In s.heap) (I : InstAt s.heap x ox Cl (some od)) (h : Q (some (.ref Cl)) { s with toks := s.toks + 1 }) : wpAny (model prog w) A (getAttr? (.ref x) "__class__") Q E s := by
  obtain ⟨cdl, hcl, _⟩ := any_some T.hd
  have hf : findObj K Cl (some od) "__class__" = some (.bind (.builtin "getset_descriptor.__get__") (.builtin "object.__class__")) := findDataD (by rw [hcl]; rfl) T.ha T.hn T.ht
  obtain ⟨hq, gq, dq, tq, oq⟩ := s
  have M0 := I.type (M := model prog w)
  have M1 := looks_findIn (M := model prog w) X T.hg
  have M2 := looks_findIn (M := model prog w) X T.hk
  have M3 := looks_find (M := model prog w) X I hf
  have subB : Looks (model prog w) hq (isInstance (.ref x) (.type "BaseException")) true := M0.andThen (looks_subIn X T.hs)
  have n2 : (Value.builtin "BaseException.__getattribute__" == Value.builtin "object.__getattribute__") = false := by decide +kernel
  have n1 : (onTheHeap (Value.ref Cl) && Value.builtin "BaseException.__getattribute__" == Value.builtin "object.__getattribute__") = false := by rw [n2]; rfl
  have n0 : (false && onTheHeap (Value.builtin "BaseException.__getattribute__")) = false := rfl
  unfold getAttr? getAttrBy? getAttrBy; refine wpAny_bind (wpAny_mkText (wpAny_bind (wpAny_attempt (wpAny_holding (wpAny_bind (M0.at (wpAny_bind (M1.at ?_))))))))
  show wpAny _ _ (if (onTheHeap (Value.ref Cl) && Value.builtin "BaseException.__getattribute__" == Value.builtin "object.__getattribute__") = true then _ else _) _ _ _
  rw [n1, if_neg Bool.false_ne_true]; unfold getAttrByItsOwn hookBefore
  refine wpAny_bind ?_; rw [if_pos (show onTheHeap (Value.ref Cl) = true from rfl)]
  refine M2.at ?_; refine wpAny_bind (wpAny_attempt (wpAny_holding ?_))
  unfold callGetattribute; rw [n0, if_neg Bool.false_ne_true]
  unfold boundAndCalled; rw [PySem.F.excAttr_ValueError.ga.bind (.ref x)]; refine wpAny_bind (wpAny_pure ?_)
  show wpAny _ _ (call (.builtin "BaseException.__getattribute__") [.ref x, .str "__class__" tq]) _ _ _
  refine wpAny_call (codeAny_call_builtin PySem.F.excAttr_ValueError.ga.plain PySem.F.entry_bexc_ga ?_); refine @check_slot (model prog w) _ _ ⟨hq, gq, dq, tq + 1, oq⟩ "BaseException.__getattribute__" "BaseException" "__getattribute__" (.ref x) [.str "__class__" tq] [] _ (by decide +kernel) (by decide +kernel) subB (PySem.F.args_bexc_ga (.ref x) (.str "__class__" tq)) ?_
  unfold Builtin.«object.__getattribute__»; refine wpAny_bind (wpAny_of_eq (a := ((Value.ref x : Value), [Value.str "__class__" tq])) (by first | rfl | (simp only [slotArgs]; rfl)) ?_)
  refine wpAny_bind (wpAny_pure (wpAny_bind (M0.at (wpAny_bind (M3.at ?_)))))
  show wpAny _ _ (holding [Value.builtin "object.__class__"] (call (.builtin "getset_descriptor.__get__") [.builtin "object.__class__", .ref x, .ref Cl]) >>= ret) _ _ _
  refine wpAny_bind (wpAny_holding (wpAny_call (class_get (s := ⟨hq, gq, dq, tq + 1, oq⟩) (ox := ox) (od := some od) X I T.hm ?_)))
  refine wpAny_pure ?_; show wpAny _ _ (handedOut (.ref Cl)) _ _ _
  rw [handedOut_of (v := .ref Cl) rfl]; first | exact wpAny_pure (wpAny_pure h) | exact wpAny_pure h | exact wpAny_pure (wpAny_bind (wpAny_pure (wpAny_pure h)))
theorem kitErrD (T : ErrC K Cl) : KitX K (.ref x) (.ref Cl) (fun h => InstAt h x ox Cl (some od)) where
  ty := fun _ _ _ I => I.type
  it := fun _ _ X _ => by
    obtain ⟨cdl, hcl, _⟩ := any_some T.hd
    unfold clsIn at hcl; split at hcl
    · rename_i c1 d1 cd1 sl1 ho
      intro A1 Q1 E1 s1 k1 q1
      unfold isType loadHead; exact wpAny_bind (wpAny_loadPart (k1 _ _ (X _ _ ho)) (wpAny_pure q1))
    · cases hcl
  ne := fun h tp dd its n sl X htp => by
    obtain ⟨cdl, hcl, _⟩ := any_some T.hd
    refine Bool.eq_false_iff.mpr fun q => ?_; have e : Cl = tp := Value.ref.inj (beq_iff_eq.mp q)
    subst e; unfold clsIn at hcl; split at hcl
    · rename_i c1 d1 cd1 sl1 ho
      have z := (X _ _ ho).symm.trans htp; cases z
    · cases hcl
  ca := fun X I k => askClassD T X I k
end
end PySem.W
set_option maxHeartbeats 4000000
namespace Dn
open PySem PySem.Spec PyProof.Rows L2

/-! ## a lambda that is handed to a def and called there -/
section
variable {X : Cx} {pins : List (Addr × Obj)} {σ : L2.St} {H : Hp} {s : Shared}
theorem actG {Eg : XK} {Ng : List Str} {qg : Str} {sg : Scope} {g f cd : Addr} {cdg pm ctv : Value} {params : Arguments} {body : Expr} {scope : Scope} {k i : Nat} {a : Str} {pn : List (Addr × Obj)} {xe : Value → Shared → Prop} {W : WX} {tb : XK → TE} {p1 p2 : Pos}
    (I : Inv X pins σ H s) (L : LamX.LamS X.env.scope scope) (hf : s.heap.get? f = some (PySem.W.kla_obj "<lambda>" (X.env.qual ++ "<lambda>") params body scope (cloFrom X.env.cells scope.names []) pm cd ctv)) (hfn : H f = none) (hfr : f ∉ frs X.stack)
    (hbind : bindArgs (PySem.W.kla_fn "<lambda>" (X.env.qual ++ "<lambda>") params body scope (cloFrom X.env.cells scope.names []) pm (.ref cd) ctv) ⟨[], []⟩ = pure [])
    (tk : Takes ((cxOf (L2.CX X.prog X.w) X.prog X.w X.K X.mg X.base Ng qg sg g cdg X.A X.stack s H Eg).tr pn xe) W) (hG : X.A.guards = some []) (hr : Room (k + 1) (X.A.deeper (PyProof.Rows.envOfC qg sg s.heap.objs.size g cdg)))
    (hbody : ∀ (A : Around) (outer : List Env) (s : Shared) (H : Hp) (E : XK), A.guards = some [] → Room k (A.deeper (LamX.lamEnv X scope s.heap.objs.size f cd)) → PE (LamX.lamCx X A outer s H E scope f cd) body (tb E))
    (hN : Ng[i]? = some a) (hv : Vis sg a) (hdb : (a == ("__debug__" : Str)) = false := by decide) (hcd : (a == ("__classdict__" : Str)) = false := by decide) :
    PE ((cxOf (L2.CX X.prog X.w) X.prog X.w X.K X.mg X.base Ng qg sg g cdg X.A X.stack s H Eg).tr pn xe) (.Call (.Name a p1) [] [] p2)
      (fun σZ HZ Q => σZ[i]? = some (some (.ref f)) ∧ HZ cd = some (LamX.CodeO cd (X.env.qual ++ "<lambda>")) ∧ tb (WE W σZ) σ HZ Q) := by
  constructor
  intro pinsZ sZ σZ HZ Q IZ hw
  obtain ⟨w1, w2, w3⟩ := hw
  apply wpAny_Call_Name_kw
  refine thn ((pe_var (pos := p1) (i := i) hN hv hdb hcd).run pinsZ sZ σZ HZ (fun v H1 => v = .ref f ∧ H1 = HZ) IZ ⟨.ref f, w1, rfl, rfl⟩) ?_
  intro u st hq
  obtain ⟨v, H1, I1, r1, ev, eH⟩ := hq
  subst ev
  rw [eH] at I1
  have eu : u = Value.ref f := r1
  subst eu
  have atF : st.heap.get? f = some (PySem.W.kla_obj "<lambda>" (X.env.qual ++ "<lambda>") params body scope (cloFrom X.env.cells scope.names []) pm cd ctv) :=
    I1.base.keep f _ hf hfn hfr (fun z => (by cases z))
  refine PySem.W.callWith_F0 ⟨_, _, _, _, atF⟩ ?_
  have un : Un (frs X.stack) [] H HZ s.heap st.heap := I1.base
  obtain ⟨⟨oc, vs, t, o1, o2, o3⟩, _, _⟩ := I1.hok cd _ w2
  have rc : codeAny (model X.prog X.w) (X.A.deeper (PyProof.Rows.envOfC qg sg s.heap.objs.size g cdg)) (.call (.ref f) ⟨[], []⟩)
      (CR (L2.CX X.prog X.w) (PyProof.Rows.envOfC qg sg s.heap.objs.size g cdg :: X.stack) X.prog X.w HZ st Q (WE W σZ)) st := by
    refine PySem.W.kla_callFunE hr.depth atF rfl L.co L.gen rfl ⟨cd, oc, vs, t, rfl, o1, o2, o3⟩ ?_
    rw [hbind]
    apply wpAny_pure
    refine wpAny_newFunctionEnv (fun y hy => (L.own y hy).2) (fun y hy => absurd hy (by simp)) (fun hh hns hsb => ⟨I1.nolimit.fresh _ hsb, ?_⟩) L.kind
    show codeAny _ _ (.expr body (LamX.lamEnv X scope st.heap.objs.size f cd)) _ _
    have kp : ∀ b o, st.heap.get? b = some o → hh.get? b = some o := fun b o e => hsb.extBut b o (Nat.ne_of_lt (Heap.lt_size e)) (Heap.get?_push_of_some _ e)
    have J : Inv (LamX.lamCx X (X.A.deeper (PyProof.Rows.envOfC qg sg s.heap.objs.size g cdg)) (PyProof.Rows.envOfC qg sg s.heap.objs.size g cdg :: X.stack) st HZ (WE W σZ) scope f cd) [] σ HZ { st with heap := hh, toks := st.toks + ([] : List (Str × Value)).length } :=
      LamX.lam_start2 I L I1.env0 hr.hd un hns kp
    refine PySem.W.kla_codeExpr (wpAny_mono ((hbody (X.A.deeper (PyProof.Rows.envOfC qg sg s.heap.objs.size g cdg)) _ st HZ _ hG (hr.deeper _)).run [] _ _ HZ Q J w3) ?_ fun e s' hq => hq)
    intro v s' hq
    obtain ⟨w', H', J', rv, q⟩ := hq
    exact ⟨w', H', J'.os, J'.bare, J'.base, J'.hok, rv, q⟩
  refine wpAny_call (codeAny_mono rc ?_)
  intro res s' hres
  match res, hres with
  | .error e, hres => exact passAt tk σZ pinsZ HZ st e s' I1 hres
  | .ok (.ret u), hres => exact I1.after hres
  | .ok .next, hres => exact False.elim hres
  | .ok .brk, hres => exact False.elim hres
  | .ok .cont, hres => exact False.elim hres
end
end Dn
set_option maxHeartbeats 4000000
namespace Dn
open PySem PySem.Spec PyProof.Rows L2

/-! ## a lambda is made; what it leaves alone -/
theorem lamMk {X : Cx} {pins : List (Addr × Obj)} {σ : L2.St} {H : Hp} {s : Shared} {T : List (Addr × Str)} {c P : Addr} {params : Arguments} {body : Expr} {scope : Scope} {pos : Pos} {E : Value → Shared → Prop} {Q : Value → Shared → Prop}
    (I : Inv X pins σ H s) (TB : LamX.TabB X.base X.mg c P) (hcd : X.env.code = .ref c) (hm : (P, X.env.qual ++ "<lambda>") ∈ T) (hu : ∀ p ∈ T, p.1 = P → p.2 = X.env.qual ++ "<lambda>") (hT : LamX.Tabs T H) (hdef : defaultsOf params X.env = ([], []))
    (hfr : ∀ y ∈ scope.names, y.2 = .free → ∃ c, X.env.cells.lookup y.1 = some c)
    (goon : ∀ (f cc : Addr) (pm ctv : Value) (H1 : Hp) (s1 : Shared), Inv X pins σ H1 s1 → (∀ b o, b ≠ P → H b = some o → H1 b = some o) → LamX.Tabs T H1 →
      s1.heap.get? f = some (PySem.W.kla_obj "<lambda>" (X.env.qual ++ "<lambda>") params body scope (cloFrom X.env.cells scope.names []) pm cc ctv) → H1 f = none → f ∉ frs X.stack → H1 cc = some (LamX.CodeO cc (X.env.qual ++ "<lambda>")) → Q (.ref f) s1) :
    wpAny (model X.prog X.w) X.A (eval (.Lambda params body scope pos) X.env) Q E s := by
  obtain ⟨ps, eP, tr, among⟩ := hT _ hm
  have objP : s.heap.get? P = some { cls := .none, data := .fields ps } := I.hok P _ eP
  have bltP := TB.bm.keeps I.bk
  have young : ∀ f, s.heap.objs.size ≤ f → f ∉ frs X.stack := by
    intro f hf z
    rcases List.mem_cons.mp (I.stkSub _ z) with e | e
    · have q := Nat.lt_of_lt_of_le I.lt hf
      rw [← e] at q
      exact Nat.lt_irrefl _ q
    · exact I.nofs hf e
  apply PySem.W.kla_eval hdef
  cases hc : codeAmong pos ps.toList with
  | some cv =>
    obtain ⟨cc, rfl, hco⟩ := among pos cv hc
    apply PySem.W.kla_makeFunctionHit (mg := X.mg) (c := c) (P := P) (ps := ps) (closure_ok hfr) I.ok.glob (I.mod.glob.keeps I.bk) hcd (TB.code.keeps I.bk) objP tr hc bltP
    intro ctv h2 tk hx hsz
    have I1 : Inv X pins σ H _ := I.kept (t' := tk) (h' := h2.push (PySem.W.kla_obj "<lambda>" (X.env.qual ++ "<lambda>") params body scope (cloFrom X.env.cells scope.names []) ((X.mg "__name__").getD .none) cc ctv)) fun b o e => Heap.get?_push_of_some _ (hx b o e)
    exact goon h2.objs.size cc _ ctv H _ I1 (fun _ _ _ e => e) hT (Heap.get?_push_size _ rfl) (I.hok.fresh hsz) (young _ hsz) hco
  | none =>
    apply PySem.W.kla_makeFunction (mg := X.mg) (c := c) (P := P) (ps := ps) (closure_ok hfr) I.ok.glob (I.mod.glob.keeps I.bk) hcd (TB.code.keeps I.bk) objP tr hc TB.gP bltP
    intro cc ctv h2 tk hx hge hlt hrec htb
    obtain ⟨c2, oc, vs, t, e2, hoc, hd, hv⟩ := hrec
    cases e2
    have hsz : s.heap.objs.size ≤ h2.objs.size := Nat.le_trans hge (Nat.le_of_lt hlt)
    have nC : H cc = none := I.hok.fresh hge
    have I1 := LamX.inv_table (q := X.env.qual ++ "<lambda>") (t' := tk) (more := #[rawInt pos.line, rawInt pos.col, .ref cc])
      (h' := h2.push (PySem.W.kla_obj "<lambda>" (X.env.qual ++ "<lambda>") params body scope (cloFrom X.env.cells scope.names []) ((X.mg "__name__").getD .none) cc ctv)) I eP
      (fun b o hb e => Heap.get?_push_of_some _ (hx b o hb e)) (Heap.get?_push_of_some _ htb) hge ⟨oc, vs, t, Heap.get?_push_of_some _ hoc, hd, hv⟩
    have same : ∀ b o, b ≠ P → H b = some o → upd (upd H P (.tbl (ps ++ #[rawInt pos.line, rawInt pos.col, .ref cc]))) cc (LamX.CodeO cc (X.env.qual ++ "<lambda>")) b = some o := by
      intro b o hb e
      rw [upd_ne (ne_of_none e nC), upd_ne hb]
      exact e
    have notP : ∀ (b : Addr) (q : Str), H b = some (LamX.CodeO b q) → b ≠ P := by
      intro b q e z
      subst z
      rw [eP] at e
      exact LamX.codeO_ne ps (Option.some.inj e).symm
    have rows : (ps ++ #[rawInt pos.line, rawInt pos.col, .ref cc]).toList = ps.toList ++ [rawInt pos.line, rawInt pos.col, .ref cc] := by simp
    refine goon h2.objs.size cc _ ctv _ _ I1 same ?_ (Heap.get?_push_size _ rfl) ?_ (young _ hsz) upd_same
    · intro p hp
      by_cases hb : p.1 = P
      · refine ⟨ps ++ #[rawInt pos.line, rawInt pos.col, .ref cc], ?_, ?_, ?_⟩
        · rw [hb, upd_ne (ne_of_none eP nC), upd_same]
        · rw [rows]
          exact PySem.TriplesOk_snoc _ _ _ _ tr
        · intro p' cv hcv
          rw [hu p hp hb]
          rw [rows] at hcv
          cases LamX.among_app _ tr hcv with
          | inl z =>
            obtain ⟨c0, e1, e2⟩ := among p' cv z
            exact ⟨c0, e1, same _ _ (notP _ _ e2) e2⟩
          | inr z => exact ⟨cc, z, upd_same⟩
      · obtain ⟨ps', a1, a2, a3⟩ := hT p hp
        refine ⟨ps', ?_, a2, ?_⟩
        · exact same _ _ hb a1
        · intro p' cv hcv
          obtain ⟨c0, e1, e2⟩ := a3 p' cv hcv
          exact ⟨c0, e1, same _ _ (notP _ _ e2) e2⟩
    · have n1 : h2.objs.size ≠ cc := Nat.ne_of_gt hlt
      have n2 : h2.objs.size ≠ P := Nat.ne_of_gt (Nat.lt_of_lt_of_le (Heap.lt_size objP) hsz)
      rw [upd_ne n1, upd_ne n2]
      exact I.hok.fresh hsz

/-! ## what the data layer makes of it -/
section
variable {F : Fr0} {C H H1 : Hp} {σ : L2.St} {ρ : Rho}
theorem RE.table {P : Addr} {q : Str} (R : RE KD F C σ H ρ) (hP : (P, q) ∈ F.tb) (e : ∀ b o, b ≠ P → H b = some o → H1 b = some o) (T1 : LamX.Tabs F.tb H1) : RE KD F C σ H1 ρ := by
  obtain ⟨ps, eP, _⟩ := R.tabs _ hP
  have nP : ∀ b o, H b = some o → (∀ ps, o ≠ .tbl ps) → H1 b = some o := fun b o h n => e b o (fun z => by
    subst z
    have z := h.symm.trans eP
    exact n ps (Option.some.inj z)) h
  refine ⟨R.c0, fun b o h => ?_, fun b o h1 h2 => ?_, fun i en h => ?_, R.inj, R.own, R.pin, R.len, fun g hg => ?_, T1, R.tabC, R.raw, R.bb⟩
  · exact nP b o (R.ch _ _ h) fun ps z => R.tabC b ps (by rw [h, z])
  · obtain ⟨e1, ⟨o', e2⟩, e3⟩ := R.fr b o h1 h2
    refine ⟨e1, ?_, fun z n => nP _ _ (e3 z n) n⟩
    by_cases hb : b = P
    · subst hb
      obtain ⟨ps', z, _⟩ := T1 _ hP
      exact ⟨_, z⟩
    · exact ⟨o', e b o' hb e2⟩
  · obtain ⟨v, e1, e2⟩ := R.sl i en h
    refine ⟨v, e1, ?_⟩
    cases en with
    | val d => exact e2
    | hot xs =>
      obtain ⟨a, vs, rfl, h1, h2, h3⟩ := e2
      exact ⟨a, vs, rfl, h1, nP _ _ h2 (fun _ z => nomatch z), h3⟩
  · obtain ⟨e1, e2, e3, e4⟩ := R.gds g hg
    exact ⟨e1, nP _ _ e2 (fun _ z => nomatch z), e3, e4⟩
def erase (r : Rho) : Rho := r.map fun o => match o with
  | some (.val d) => some (.val d)
  | _ => none
theorem erase_at {r : Rho} {i : Nat} {e : Ent} (h : (erase r)[i]? = some (some e)) : ∃ d, e = .val d ∧ r[i]? = some (some (.val d)) := by
  unfold erase at h
  rw [List.getElem?_map] at h
  cases q : r[i]? with
  | none =>
    rw [q] at h
    cases h
  | some o =>
    rw [q] at h
    cases o with
    | none => cases h
    | some en =>
      cases en with
      | val d =>
        cases h
        exact ⟨d, rfl, rfl⟩
      | hot xs => cases h
/-- the maker's slots, looked at from later on -/
theorem RE.later {CZ HZ : Hp} {T : List (Addr × Str)} (R : RE KD F C σ H ρ) (s1 : Same C CZ) (s2 : Same CZ HZ) (hT : LamX.Tabs T HZ) (hC : ∀ (b : Addr) (ps : Array Value), CZ b ≠ some (.tbl ps)) : RE KD ⟨CZ, HZ, [], [], T, [], fun _ => none⟩ CZ σ HZ (erase ρ) := by
  refine ⟨Same.refl _, s2, fun b o h1 h2 => ⟨h2, ⟨o, h1⟩, fun _ _ => h1⟩, fun i e h => ?_, fun i j xs ys a h1 => ?_, fun i xs a h1 => ?_, fun p hp => (by cases hp), by unfold erase; rw [List.length_map]; exact R.len, fun q hq => (by cases hq), hT, hC, fun q hq => (by cases hq), fun _ _ z => (by cases z)⟩
  · obtain ⟨d, rfl, h2⟩ := erase_at h
    obtain ⟨v, e1, e2⟩ := R.sl i _ h2
    exact ⟨v, e1, dpMono s1 e2⟩
  · obtain ⟨d, z, _⟩ := erase_at h1
    cases z
  · obtain ⟨d, z, _⟩ := erase_at h1
    cases z
end
def mThk (th : Out PyData) : Mi PyData := fun r => match th with
  | .ok d _ => .ok d r
  | .ex c w _ => .ex c w r
  | .bad => .bad
end Dn
set_option maxHeartbeats 4000000
namespace Dn
open PySem PySem.Spec PyProof.Rows L2

/-! ## the handed-over lambda is called -/
theorem re_call0 {F : Fr0} {C H C' H' : Hp} {σ σ2 : L2.St} {ρ r : Rho} {T : List (Addr × Str)} (R : RE KD F C σ H ρ) (hT : F.tb = T) (R2 : RE KD ⟨C, H, [], [], T, [], fun _ => none⟩ C' σ2 H' r) : RE KD F C' σ H' ρ := by
  have x : CallExt KD T C H C' H' [] (outsOf r []) := end_Call (P := []) (as := []) rfl rfl R2
  rw [← hT] at x
  exact R.call (is := []) x List.nodup_nil .nil
section
variable {X : Cx} {pins : List (Addr × Obj)} {σ : L2.St} {H : Hp} {s : Shared}
theorem deThk {Eg : XK} {Ng : List Str} {qg : Str} {sg : Scope} {g f cd : Addr} {cdg pm ctv : Value} {params : Arguments} {body : Expr} {scope : Scope} {k i : Nat} {a : Str} {pn : List (Addr × Obj)} {xe : Value → Shared → Prop} {W : WX} {P : Pn} {p1 p2 : Pos} {m : Mi PyData} {F0 : Fr0} {C : Hp} {ρ : Rho}
    (I : Inv X pins σ H s) (L : LamX.LamS X.env.scope scope) (hf : s.heap.get? f = some (PySem.W.kla_obj "<lambda>" (X.env.qual ++ "<lambda>") params body scope (cloFrom X.env.cells scope.names []) pm cd ctv)) (hfn : H f = none) (hfr : f ∉ frs X.stack)
    (hbind : bindArgs (PySem.W.kla_fn "<lambda>" (X.env.qual ++ "<lambda>") params body scope (cloFrom X.env.cells scope.names []) pm (.ref cd) ctv) ⟨[], []⟩ = pure [])
    (tk : Takes ((cxOf (L2.CX X.prog X.w) X.prog X.w X.K X.mg X.base Ng qg sg g cdg X.A X.stack s H Eg).tr pn xe) W) (hG : X.A.guards = some []) (hr : Room (k + 1) (X.A.deeper (PyProof.Rows.envOfC qg sg s.heap.objs.size g cdg)))
    (R : RE KD F0 C σ H ρ) (hco : H cd = some (LamX.CodeO cd (X.env.qual ++ "<lambda>"))) (hP : ∀ F, FOk F P → (i, f) ∈ F.rw ∧ Same C F.C0 ∧ (∀ b q, H b = some (LamX.CodeO b q) → F.H0 b = some (LamX.CodeO b q)) ∧ F.pp = [] ∧ Same F.C0 F.H0)
    (hbody : ∀ (A : Around) (outer : List Env) (s : Shared) (H : Hp) (E : XK), A.guards = some [] → Room k (A.deeper (LamX.lamEnv X scope s.heap.objs.size f cd)) → DE (LamX.lamCx X A outer s H E scope f cd) (fun cls d _ H' => E cls d H') ⟨[], P.tb, fun _ => True⟩ m body)
    (hN : Ng[i]? = some a) (hv : Vis sg a) (hdb : (a == ("__debug__" : Str)) = false := by decide) (hcd : (a == ("__classdict__" : Str)) = false := by decide) :
    DE ((cxOf (L2.CX X.prog X.w) X.prog X.w X.K X.mg X.base Ng qg sg g cdg X.A X.stack s H Eg).tr pn xe) W P (mThk (m (erase ρ))) (.Call (.Name a p1) [] [] p2) := by
  intro F hF
  obtain ⟨hi, hC, hH, hpp, hS⟩ := hP F hF
  refine peImp (actG (tb := fun E σ H Q => ∃ F, FOk F ⟨[], P.tb, fun _ => True⟩ ∧ tM X F (fun cls d _ H' => E cls d H') (RelD X) m σ H Q) I L hf hfn hfr hbind tk hG hr ?_ hN hv hdb hcd) ?_
  · intro A outer s H E hG2 hr2
    constructor
    intro pins s1 σ1 H1 Q I1 ⟨F1, hF1, h⟩
    exact (hbody A outer s H E hG2 hr2 F1 hF1).run pins s1 σ1 H1 Q I1 h
  · intro σZ HZ Q ⟨CZ, ρZ, RZ, h⟩
    have hCZ : Same C CZ := hC.trans RZ.c0
    refine ⟨RZ.raw _ hi, ?_, ⟨CZ, HZ, [], [], P.tb, [], fun _ => none⟩, ⟨rfl, rfl, trivial⟩, CZ, erase ρ, R.later hCZ RZ.ch (by rw [← hF.2.1]; exact RZ.tabs) RZ.tabC, ?_⟩
    · have e := hH _ _ hco
      cases q : F.C0 cd with
      | none => exact (RZ.fr cd _ e q).2.2 (by rw [hpp]; intro p hp; cases hp) LamX.codeO_ne
      | some o =>
        have y := hS _ _ q
        rw [e] at y
        cases y
        exact RZ.ch _ _ (RZ.c0 _ _ q)
    · unfold mThk at h
      cases e : m (erase ρ) with
      | ok d r =>
        simp only [e] at h
        exact fun v C' H' s1 R1 dv => h v C' H' s1 (re_call0 RZ hF.2.1 R1) dv
      | ex c w r =>
        simp only [e] at h
        exact fun A d v C' H' hm s1 R1 q1 q2 => h A d v C' H' hm s1 (re_call0 RZ hF.2.1 R1) q1 q2
      | bad =>
        simp only [e] at h
        exact h
end

/-! ## a def that gets a lambda first -/
def rhoL (n : Nat) (ds : List PyData) : Rho := none :: ds.map (fun d => some (Ent.val d)) ++ List.replicate (n - (ds.length + 1)) none
inductive FT where
  | rt (d : PyData)
  | ex (c : Str) (w : PyData)
  | bad
def fnT (body : Out PyData → Rho → Fl) (n : Nat) : Out PyData → List PyData → FT := fun th ds => match body th (rhoL n ds) with
  | .nx _ => .rt .none
  | .rt (.cold d) _ => .rt d
  | .rt (.fresh _) _ => .bad
  | .ex c w _ => .ex c w
  | _ => .bad
/-- what the context of that def is told of the lambda: calling it is worth th -/
def Thunk (X : Cx) (ok : Fr0 → Prop) (T : List (Addr × Str)) (a : Str) (th : Out PyData) : Prop :=
  ∀ (W : WX) (pn : List (Addr × Obj)) (xe : Value → Shared → Prop) (p1 p2 : Pos), Takes (X.tr pn xe) W → DE (X.tr pn xe) W ⟨[0], T, ok⟩ (mThk th) (.Call (.Name a p1) [] [] p2)
structure DfnT (Pg : Program) (w : World) (K : PySem.W.Frag) (mg : Str → Option Value) (base : Heap) (T : List (Addr × Str)) (k : Nat) (x : Str) (n : Nat) (fm : Out PyData → List PyData → FT) : Prop where
  ex : ∃ (g : Addr) (oc dV kV doc pm cdv ct : Value) (an od : Option Addr) (osl : Array (Option Value)) (st : Stmt) (a : Str) (ps N : List Str) (body : Out PyData → Rho → Fl), mg x = some (.ref g) ∧ PySem.W.keepIn K (.ref g) = true ∧
    K.lookup g = some ⟨oc, od, .func (PySem.W.fnOf x x (defArgs st) (defBody st) (defScope st) dV kV doc pm an cdv ct), osl⟩ ∧ PySem.W.codeIn K cdv x = true ∧ L2.Binds K (PySem.W.fnOf x x (defArgs st) (defBody st) (defScope st) dV kV doc pm an cdv ct) (a :: ps) [] ∧
    FnScope N (a :: ps) (defScope st) ∧ N[0]? = some a ∧ Vis (defScope st) a ∧ (a == ("__debug__" : Str)) = false ∧ (a == ("__classdict__" : Str)) = false ∧ ps.length = n ∧ n + 1 ≤ N.length ∧ fm = fnT body N.length ∧
    ∀ (th : Out PyData) (ok : Fr0 → Prop) (A : Around) (outer : List Env) (s : Shared) (H : Hp) (E : XK), A.guards = some [] → Room k (A.deeper (PyProof.Rows.envOfC x (defScope st) s.heap.objs.size g cdv)) →
      Thunk (cxOf (L2.CX Pg w) Pg w K mg base N x (defScope st) g cdv A outer s H E) ok T a th →
      DSs (cxOf (L2.CX Pg w) Pg w K mg base N x (defScope st) g cdv A outer s H E) (fun cls d _ H' => E cls d H') ⟨[0], T, ok⟩ (body th) (defBody st)
def mLam (fm : Out PyData → List PyData → FT) (m : Mi PyData) (ds : List PyData) : Mi PyData := fun r => match fm (m (erase r)) ds with
  | .rt d => .ok d r
  | .ex c w => .ex c w r
  | .bad => .bad
theorem start_L {T : List (Addr × Str)} {N : List Str} {f : Addr} {vs : List V} {ds : List PyData} {C H : Hp} (hs : Same C H) (hT : LamX.Tabs T H) (hC : ∀ (b : Addr) (ps : Array Value), C b ≠ some (.tbl ps)) (hp : DpAll KD C vs ds) (hl : vs.length + 1 ≤ N.length) :
    RE KD ⟨C, H, [], [], T, [(0, f)], fun _ => none⟩ C (L2.start N (.ref f :: vs)) H (rhoL N.length ds) := by
  have hlen := dpaLen hp
  have at_ : ∀ (i : Nat) (e : Ent), (rhoL N.length ds)[i]? = some (some e) → ∃ j d, i = j + 1 ∧ ds[j]? = some d ∧ e = .val d := by
    intro i e h
    unfold rhoL at h
    cases i with
    | zero => simp at h
    | succ j =>
      simp only [List.cons_append, List.getElem?_cons_succ] at h
      by_cases hj : j < ds.length
      · rw [List.getElem?_append_left (by simpa using hj)] at h
        rw [List.getElem?_map] at h
        cases q : ds[j]? with
        | none =>
          rw [q] at h
          cases h
        | some d =>
          rw [q] at h
          cases h
          exact ⟨j, d, rfl, q, rfl⟩
      · rw [List.getElem?_append_right (by simpa using hj)] at h
        have z := List.mem_of_getElem? h
        simp at z
  have noh : ∀ (i : Nat) (xs : List PyData), (rhoL N.length ds)[i]? ≠ some (some (.hot xs)) := fun i xs h => by
    obtain ⟨j, d, _, _, z⟩ := at_ i _ h
    cases z
  refine ⟨Same.refl _, hs, fun b o h1 h2 => ⟨h2, ⟨o, h1⟩, fun _ _ => h1⟩, fun i e h => ?_, fun i j xs ys a h1 => absurd h1 (noh i xs), fun i xs a h1 => absurd h1 (noh i xs), fun p hp => (by cases hp), ?_, fun q hq => (by cases hq), hT, hC, fun q hq => ?_, fun _ _ z => (by cases z)⟩
  · obtain ⟨j, d, rfl, q, rfl⟩ := at_ i e h
    obtain ⟨v, e1, e2⟩ := dpaGet hp q
    refine ⟨v, ?_, e2⟩
    unfold L2.start
    have hj : j < vs.length := (List.getElem?_eq_some_iff.mp e1).1
    rw [List.getElem?_append_left (by simpa using hj)]
    simp [e1]
  · unfold L2.start rhoL
    simp [hlen]
    try omega
  · have e := List.mem_singleton.mp hq
    subst e
    simp [L2.start]

theorem re_back {F : Fr0} {C H C' H' : Hp} {σ σ2 : L2.St} {ρ r : Rho} {T : List (Addr × Str)} {rw' : List (Nat × Addr)} (R : RE KD F C σ H ρ) (hT : F.tb = T) (R2 : RE KD ⟨C, H, [], [], T, rw', fun _ => none⟩ C' σ2 H' r) : RE KD F C' σ H' ρ := by
  have x : CallExt KD T C H C' H' [] [] := ⟨R2.c0, R2.ch, fun b o h1 h2 => by
    obtain ⟨e1, e2, e3⟩ := R2.fr b o h1 h2
    exact ⟨e1, e2, fun _ nt => e3 (fun p hp => by cases hp) nt⟩, R2.tabs, R2.tabC, .nil⟩
  rw [← hT] at x
  exact R.call (is := []) x List.nodup_nil .nil
/-- arguments that are constants -/
def ConstA (X : Cx) (es : List Expr) (ds : List PyData) : Prop := ∃ vs, PA X es (fun _ H Q => Q vs H) ∧ (∀ C, DpAll KD C vs ds) ∧ ds.length = es.length
theorem caNil {X : Cx} : ConstA X [] [] := ⟨[], paImp pa_nil fun σ H Q h => h, fun _ => .nil, rfl⟩
theorem caBl {X : Cx} {b : Bool} {j pos} {es : List Expr} {ds : List PyData} (h : ConstA X es ds) (hs : starEach (.Constant (.bool b) j pos :: es) X.env = (false, eval (.Constant (.bool b) j pos) X.env) :: starEach es X.env := by rfl) : ConstA X (.Constant (.bool b) j pos :: es) (.bool b :: ds) := by
  obtain ⟨vs, h1, h2, h3⟩ := h
  exact ⟨.bl b :: vs, paImp (pa_cons pe_bl h1 hs) fun σ H Q q => q, fun C => .cons (.bl b) (h2 C), by simp [h3]⟩
theorem deLam {X : Cx} {W : WX} {P : Pn} {x : Str} {params : Arguments} {body : Expr} {scope : Scope} {m : Mi PyData} {es : List Expr} {ds : List PyData} {fm : Out PyData → List PyData → FT} {k n : Nat} {c Pt : Addr} {p lpos pos : Pos}
    (D : DfnT X.prog X.w X.K X.mg X.base P.tb (k + 1) x n fm) (hs : X.stack = X.env :: X.outer) (hfm : X.env.frame = some X.env.locals) (hG : X.A.guards = some []) (hr : Room (k + 2) X.A) (tk : Takes X W)
    (TB : LamX.TabB X.base X.mg c Pt) (hcode : X.env.code = .ref c) (hmT : (Pt, X.env.qual ++ "<lambda>") ∈ P.tb) (hu : ∀ p ∈ P.tb, p.1 = Pt → p.2 = X.env.qual ++ "<lambda>") (L : LamX.LamS X.env.scope scope) (hdef : defaultsOf params X.env = ([], []))
    (hbind : ∀ (q : Str) (cl : List (Str × Addr)) (pm cv ctv : Value), bindArgs (PySem.W.kla_fn "<lambda>" q params body scope cl pm cv ctv) ⟨[], []⟩ = pure [])
    (hbody : ∀ (A : Around) (outer : List Env) (s : Shared) (H : Hp) (E : XK) (f cd : Addr), A.guards = some [] → Room k (A.deeper (LamX.lamEnv X scope s.heap.objs.size f cd)) → DE (LamX.lamCx X A outer s H E scope f cd) (fun cls d _ H' => E cls d H') ⟨[], P.tb, fun _ => True⟩ m body)
    (ha : ConstA X es ds) (hg : Gl X x) (hn : es.length = n := by rfl) (hdb : (x == ("__debug__" : Str)) = false := by decide)
    (he : starEach (.Lambda params body scope lpos :: es) X.env = (false, eval (.Lambda params body scope lpos) X.env) :: starEach es X.env := by rfl) (hpl : (backTo pos (starEach es X.env)).any (·.1) = false := by rfl) :
    DE X W P (mLam fm m ds) (.Call (.Name x p) (.Lambda params body scope lpos :: es) [] pos) := by
  intro F hF
  constructor
  intro pins s σ H Q I ⟨C, ρ, R, h⟩
  have hT : F.tb = P.tb := hF.2.1
  obtain ⟨g, oc, dV, kV, doc, pm, cdv, ct, an, od, osl, st, a, ps, N, bodyM, hm, hk, lk, hcg, hb, Sg, hN0, hva, hda, hca, hpl2, hle, efm, hB⟩ := D.ex
  obtain ⟨vs, pa, dA, lA⟩ := ha
  refine wpAny_Call_Name_kw (ld_glob I hg hm ?_ hdb)
  refine PySem.W.callWith_K (h₀ := X.base) I.ok.mod.kin hk ?_ he hpl
  show wpAny _ _ (spliced ((false, eval (.Lambda params body scope lpos) X.env) :: backTo pos (starEach es X.env))) _ _ s
  refine PySem.Calls.spliced_cons (lamMk I TB hcode hmT hu (by rw [← hT]; exact R.tabs) hdef (L.has I.ok) fun f cd pm' ctv H1 s1 I1 eN T1 hf hfn hfr hco => ?_)
  have R1 : RE KD F C σ H1 ρ := R.table (by rw [hT]; exact hmT) eN (by rw [hT]; exact T1)
  have Ip : Inv X ((f, PySem.W.kla_obj "<lambda>" (X.env.qual ++ "<lambda>") params body scope (cloFrom X.env.cells scope.names []) pm' cd ctv) :: pins) σ H1 s1 := I1.pins_of fun q hq => by
    rcases List.mem_cons.mp hq with e | e
    · subst e
      refine ⟨hf, hfn, fun z => hfr ?_, fun z => hfr ?_, fun v z => by cases z⟩
      · rw [hs]
        exact List.mem_filterMap.mpr ⟨X.env, List.mem_cons_self, by rw [hfm]; exact congrArg some z.symm⟩
      · rw [hs]
        obtain ⟨e, he, q⟩ := List.mem_filterMap.mp z
        exact List.mem_filterMap.mpr ⟨e, List.mem_cons_of_mem _ he, q⟩
    · exact I1.pin q (List.mem_append_right _ e)
  refine thn (pa.run pos _ s1 σ H1 (fun us H2 => us = vs ∧ H2 = H1) Ip ⟨rfl, rfl⟩) fun us s2 ⟨ws, H2, I2', rv, e1, e2⟩ => ?_
  subst e1
  subst e2
  obtain ⟨hf2, hfn2, _⟩ := I2'.pin _ (List.mem_append_right _ List.mem_cons_self)
  have I2 : Inv X pins σ H2 s2 := I2'.pins_of fun q hq => I2'.pin q (List.mem_append_right _ (List.mem_cons_of_mem _ hq))
  refine ⟨I2.kIn, ?_⟩
  have hlw : ws.length = ps.length := (dpaLen (dA C)).trans (lA.trans (hn.trans hpl2.symm))
  have bd := hb s2 (.ref f :: us) I2.kIn (by simp [← rv.length, hlw])
  rw [List.append_nil] at bd
  apply wpAny_call
  have rc : codeAny (model X.prog X.w) X.A (.call (.ref g) ⟨.ref f :: us, []⟩) (CR (L2.CX X.prog X.w) X.stack X.prog X.w H2 s2 Q (WE W σ)) s2 := by
    refine LamX.run_ofS (N := N) (ps := a :: ps) (us := .ref f :: us) (vs := .ref f :: ws) lk hcg Sg hr I2.env0 bd (.cons rfl rv) (by simp [hlw]) fun hr' => ?_
    let F2 : Fr0 := ⟨C, H2, [], [], P.tb, [(0, f)], fun _ => none⟩
    have TH : Thunk (cxOf (L2.CX X.prog X.w) X.prog X.w X.K X.mg X.base N x (defScope st) g cdv X.A X.stack s2 H2 (WE W σ)) (fun F => F = F2) P.tb a (m (erase ρ)) := fun W' pn xe p1 p2 tk' =>
      deThk (i := 0) I2 L hf2 hfn2 hfr (hbind _ _ _ _ _) tk' hG hr' R1 hco (fun F hF2 => by
        have e : F = F2 := hF2.2.2
        subst e
        exact ⟨List.mem_singleton.mpr rfl, Same.refl _, fun _ _ h => h, rfl, R1.ch⟩) (fun A outer s H E hG2 hr2 => hbody A outer s H E f cd hG2 hr2) hN0 hva hda hca
    refine ⟨_, hB (m (erase ρ)) (fun F => F = F2) X.A X.stack s2 H2 (WE W σ) hG hr' TH F2 ⟨rfl, rfl, rfl⟩, C, rhoL N.length ds, start_L R1.ch (by rw [← hT]; exact R1.tabs) R1.tabC (dA C) (by rw [hlw, hpl2]; exact hle), ?_⟩
    unfold mLam at h
    rw [efm] at h
    unfold fnT at h
    cases eb : bodyM (m (erase ρ)) (rhoL N.length ds) with
    | nx r =>
      simp only [eb] at h
      exact fun σ' C' H' s' R' => h .non C' H' s' (re_back R1 hT R') .non
    | rt d r =>
      cases d with
      | cold d =>
        simp only [eb] at h
        exact fun v σ' C' H' s' R' dv => h v C' H' s' (re_back R1 hT R') dv
      | fresh ds =>
        simp only [eb] at h
        exact h.elim
    | ex c w r =>
      simp only [eb] at h
      exact fun σ' A' d v C' H' hm s' R' q1 q2 => h A' d v C' H' hm s' (re_back R1 hT R') q1 q2
    | bk r =>
      simp only [eb] at h
      exact h.elim
    | ct r =>
      simp only [eb] at h
      exact h.elim
    | bad =>
      simp only [eb] at h
      exact h.elim
  refine codeAny_mono rc fun res s3 hres => ?_
  match res, hres with
  | .error e, hres => exact passAt tk σ pins H2 s2 e s3 I2 hres
  | .ok (.ret u), hres => exact I2.after hres
  | .ok .next, hres => exact False.elim hres
  | .ok .brk, hres => exact False.elim hres
  | .ok .cont, hres => exact False.elim hres
end Dn
set_option maxHeartbeats 4000000
namespace Dn
open PySem PySem.Spec PyProof.Rows L2

/-! ## try .. except x as n -/
def unslot (i : Nat) : Fl → Fl
  | .nx r => .nx (r.set i none)
  | .bk r => .bk (r.set i none)
  | .ct r => .ct (r.set i none)
  | .rt d r => .rt d (r.set i none)
  | .ex _ _ _ => .bad
  | .bad => .bad
def sTry (i : Nat) (isC : Str → Option Bool) (body : Rho → Fl) (suite : Str → PyData → Rho → Fl) : Rho → Fl := fun r => match body r with
  | .ex c w r' => (match isC c with
      | some true => if i < r'.length then unslot i (suite c w (r'.set i none)) else .bad
      | some false => .ex c w r'
      | none => .bad)
  | o => o
/-- what the suite knows of the error that it holds at a: its own dict dd, the value w in it -/
def Held (i : Nat) (a dd : Addr) (w : PyData) (F : Fr0) : Prop := (∃ v, F.B dd = some (xw dd v) ∧ Dp KD F.B v w) ∧ (i, a) ∈ F.rw
theorem RE.suiteIn {F : Fr0} {C H : Hp} {σ : L2.St} {ρ : Rho} {i : Nat} {a : Addr} (R : RE KD F C σ H ρ) (hp : ∀ p ∈ F.pp ++ F.rw, p.1 ≠ i) (hl : i < ρ.length) : RE KD { F with rw := F.rw ++ [(i, a)], B := C } C (σ.set i (some (.ref a))) H (ρ.set i none) := by
  have R' := R.drop (o := some (.ref a)) hp
  refine ⟨R'.c0, R'.ch, R'.fr, R'.sl, R'.inj, R'.own, R'.pin, R'.len, R'.gds, R'.tabs, R'.tabC, fun q hq => ?_, Same.refl _⟩
  rcases List.mem_append.mp hq with z | z
  · exact R'.raw q z
  · have e := List.mem_singleton.mp z
    subst e
    rw [List.getElem?_set_self (by rw [R.len]; exact hl)]
theorem RE.suiteOut {F : Fr0} {C C0 H : Hp} {σ : L2.St} {ρ : Rho} {i : Nat} {a : Addr} (R : RE KD { F with rw := F.rw ++ [(i, a)], B := C0 } C σ H ρ) (hp : ∀ p ∈ F.pp ++ F.rw, p.1 ≠ i) (hB : Same F.B C) : RE KD F C (σ.set i none) H (ρ.set i none) := by
  have R' : RE KD F C σ H ρ := ⟨R.c0, R.ch, R.fr, R.sl, R.inj, R.own, R.pin, R.len, R.gds, R.tabs, R.tabC, fun q hq => R.raw q (List.mem_append_left _ hq), hB⟩
  exact R'.drop hp
section
variable {X : Cx} {W : WX} {P : Pn} {x n : Str} {cv : Value} {i : Nat} {body suite : List Stmt} {b0 : Stmt} {np pos pos2 : Pos} {mb : Rho → Fl} {ms : Str → PyData → Rho → Fl} {isC : Str → Option Bool}
theorem dsTry (hs : X.stack = X.env :: X.outer) (hf : X.env.frame = some X.env.locals) (hN : X.N.Nodup) (hi : X.N[i]? = some n) (hln : X.env.kindOf n = some .local) (hc : Names X x cv) (tk : Takes X W) (hip : i ∉ P.ps)
    (hC : ∀ c b A, isC c = some b → X.mg c = some (.ref A) → PySem.W.exmOne X.K (.ref A) cv = some b)
    (hb : ∀ (W' : WX) (pn : List (Addr × Obj)) (xe : Value → Shared → Prop), Takes (X.tr pn xe) W' → DSs (X.tr pn xe) W' P mb body)
    (hsu : ∀ (c : Str) (w : PyData) (a A dd : Addr) (oe : Obj) (pn : List (Addr × Obj)) (ok : Fr0 → Prop), isC c = some true → X.mg c = some (.ref A) → Zc (.ref A) (some dd) oe → (∃ vs, oe.data = .fields vs) → (∀ F, ok F → Held i a dd w F) →
      DSs (X.suite a ((a, oe) :: pn)) (fun _ _ _ _ => False) ⟨P.ps ++ [i], P.tb, ok⟩ (ms c w) (b0 :: suite)) :
    DS X W P (sTry i isC mb ms) (.Try body [.ExceptHandler (some (.Name x np)) (some n) (b0 :: suite) pos2] [] [] pos) := by
  intro F hF
  have nP := notPin hF hip
  refine psImp (ps_try_as (i := i) (Wout := W) (tb := fun W' => tS X F W' mb)
    (ts := fun a cls d D σ H => ∃ (c : Str) (w : PyData) (A dd : Addr) (C : Hp), isC c = some true ∧ cls = .ref A ∧ d = some dd ∧ X.mg c = some (.ref A) ∧ Held i a dd w { F with rw := F.rw ++ [(i, a)], B := C } ∧ tS X { F with rw := F.rw ++ [(i, a)], B := C } (fun _ _ _ _ => False) (ms c w) D σ H)
    hs hf hN hi hln hc tk (fun W' pn xe tk' _ => hb W' pn xe tk' F hF) (fun a oe cls d pn hz hv => ?_)) fun D σ H ⟨C, ρ, R, h⟩ => ⟨C, ρ, R, ?_⟩
  · constructor
    intro pins s σ H D I ⟨c, w, A, dd, C, e1, e2, e3, e4, e5, h⟩
    subst e2
    subst e3
    exact (hsu c w a A dd oe pn (fun F' => F' = { F with rw := F.rw ++ [(i, a)], B := C }) e1 e4 hz hv (fun F' e => by subst e; exact e5) { F with rw := F.rw ++ [(i, a)], B := C } ⟨by
      show (F.pp ++ (F.rw ++ [(i, a)])).map (·.1) = P.ps ++ [i]
      rw [← List.append_assoc, List.map_append, hF.1]
      rfl, hF.2.1, rfl⟩).run pins s σ H D I h
  · unfold sTry at h
    cases e : mb ρ with
    | nx r =>
      simp only [e] at h
      exact h
    | bk r =>
      simp only [e] at h
      exact h
    | ct r =>
      simp only [e] at h
      exact h
    | rt d r =>
      simp only [e] at h
      exact h
    | bad =>
      simp only [e] at h
      exact h
    | ex c w r =>
      simp only [e] at h
      intro σ' A dd v C' H' hm s1 R1 hd dv
      cases ec : isC c with
      | none =>
        simp only [ec] at h
        exact h.elim
      | some b =>
        refine ⟨b, hC c b A ec hm, fun hb => ?_, fun hb => ?_⟩
        · subst hb
          simp only [ec] at h
          intro a na
          by_cases hl : i < r.length
          · rw [if_pos hl] at h
            refine ⟨c, w, A, dd, C', ec, rfl, rfl, hm, ⟨⟨v, hd, dv⟩, List.mem_append_right _ (List.mem_singleton.mpr rfl)⟩, C', r.set i none, R1.suiteIn nP hl, ?_⟩
            cases es : ms c w (r.set i none) with
            | nx r2 =>
              simp only [es, unslot] at h
              exact fun σ2 C2 H2 s2 R2 => h _ C2 H2 (s1.trans s2) (R2.suiteOut nP (R1.bb.trans s2))
            | bk r2 =>
              simp only [es, unslot] at h
              exact fun σ2 C2 H2 s2 R2 => h _ C2 H2 (s1.trans s2) (R2.suiteOut nP (R1.bb.trans s2))
            | ct r2 =>
              simp only [es, unslot] at h
              exact fun σ2 C2 H2 s2 R2 => h _ C2 H2 (s1.trans s2) (R2.suiteOut nP (R1.bb.trans s2))
            | rt d r2 =>
              simp only [es, unslot] at h
              exact fun v2 σ2 C2 H2 s2 R2 d2 => h v2 _ C2 H2 (s1.trans s2) (R2.suiteOut nP (R1.bb.trans s2)) d2
            | ex c2 w2 r2 =>
              simp only [es, unslot] at h
              exact h.elim
            | bad =>
              simp only [es, unslot] at h
              exact h.elim
          · rw [if_neg hl] at h
            exact h.elim
        · subst hb
          simp only [ec] at h
          exact h σ' A dd v C' H' hm s1 R1 hd dv

/-! ### what the suite asks of its error -/
def rIsD (K : PySem.W.Frag) (D a dd : Addr) : List V → Hp → VK → Prop := fun xs H Q => ∃ (c : V) (cv : Value) (b : Bool) (v : V), xs = [.ref a, c] ∧ (∀ u, RelV c u → u = cv) ∧ PySem.W.kitOne K (.ref D) cv = some b ∧ H dd = some (xw dd v) ∧ Q (.bl b) H
theorem callIsD {a D dd : Addr} {oe : Obj} {pn : List (Addr × Obj)} (T : PySem.W.ErrC X.K D) (hz : Zc (.ref D) (some dd) oe) (hv : ∃ vs, oe.data = .fields vs) : CallR (X.suite a ((a, oe) :: pn)) (.builtin "isinstance") (rIsD X.K D a dd) := by
  intro pins s σ H xs us Q I r h
  obtain ⟨c, cv, b, v, rfl, hcv, e, hd, q⟩ := h
  cases r with
  | cons rx rr =>
    cases rr with
    | cons rt rr =>
      cases rr
      cases rx
      have ec := hcv _ rt
      subst ec
      obtain ⟨hget, _⟩ := I.pin (a, oe) (List.mem_append.mpr (.inl List.mem_cons_self))
      obtain ⟨vs, hv⟩ := hv
      obtain ⟨mA, hns, _⟩ := xw_at (I.hok dd _ hd)
      obtain ⟨od, ho, _⟩ := lookIn_ns hns
      have J : PySem.W.InstAt s.heap a oe D (some od) := ⟨hget, hz.1, by unfold PySem.W.notCls; rw [hv] <;> rfl, by rw [hz.2]; exact ho⟩
      exact PySem.W.kia_one (PySem.W.kitErrD T) I.kIn J e (fun z => nomatch z) fun tk => ⟨.bl b, H, I.kept (t' := tk) fun _ _ z => z, rfl, q⟩
def mIsE (o : Option Bool) : Mi PyData := Mi.opt (o.map PyData.bool)
theorem deIsE {ok : Fr0 → Prop} {ps : List Nat} {T : List (Addr × Str)} {w : PyData} {W' : WX} {a A dd : Addr} {oe : Obj} {pn : List (Addr × Obj)} {en cn : Str} {p1 p2 p3 pos : Pos} {j : Nat} {o : Option Bool} {u : Value}
    (EC : PySem.W.ErrC X.K A) (hz : Zc (.ref A) (some dd) oe) (hv : ∃ vs, oe.data = .fields vs) (hok : ∀ F, ok F → Held j a dd w F) (he : PE (X.suite a ((a, oe) :: pn)) (.Name en p3) (tVar j))
    (hcn : ∃ v : V, PE (X.suite a ((a, oe) :: pn)) (.Name cn p2) (tC v) ∧ ∀ z, RelV v z → z = u) (hk : ∀ b, o = some b → PySem.W.kitOne X.K (.ref A) u = some b) (hg : Gl X "isinstance") (hm : X.mg "isinstance" = none)
    (hs : starEach [.Name en p3, .Name cn p2] X.env = (false, eval (.Name en p3) X.env) :: starEach [.Name cn p2] X.env := by rfl) (hs2 : starEach [.Name cn p2] X.env = (false, eval (.Name cn p2) X.env) :: starEach [] X.env := by rfl)
    (hpl : (backTo pos (starEach [.Name cn p2] X.env)).any (·.1) = false := by rfl) :
    DE (X.suite a ((a, oe) :: pn)) W' ⟨ps, T, ok⟩ (mIsE o) (.Call (.Name "isinstance" p1) [.Name en p3, .Name cn p2] [] pos) := fun F hF => by
  obtain ⟨⟨v, hB, _⟩, hr⟩ := hok F hF.2.2
  obtain ⟨vc, hvc, hu⟩ := hcn
  refine peImp (pe_callB (callIsD EC hz hv) hg hm (by decide +kernel) (pa_cons he (pa_cons hvc pa_nil hs2) hs) (by decide) (by decide) hs hpl) fun σ H Q ⟨C, ρ, R, h⟩ => ?_
  unfold mIsE at h
  cases o with
  | none => exact h.elim
  | some b =>
    exact ⟨_, R.raw _ hr, vc, u, b, v, rfl, hu, hk b rfl, R.ch _ _ (R.bb _ _ hB), poRet h R (.bl b)⟩
theorem deWhat {ok : Fr0 → Prop} {ps : List Nat} {T : List (Addr × Str)} {w : PyData} {W' : WX} {a A fI dd : Addr} {oe : Obj} {pn : List (Addr × Obj)} {en nmC : Str} {p3 pos : Pos} {j : Nat}
    (TX : PySem.WhX.WhTxt X.K X.mg nmC A fI) (hz : Zc (.ref A) (some dd) oe) (hv : ∃ vs, oe.data = .fields vs) (hok : ∀ F, ok F → Held j a dd w F) (he : PE (X.suite a ((a, oe) :: pn)) (.Name en p3) (tVar j))
    (hb : attributeBase (.Name en p3) "what" X.env (eval (.Name en p3) X.env) = eval (.Name en p3) X.env := by rfl) :
    DE (X.suite a ((a, oe) :: pn)) W' ⟨ps, T, ok⟩ (Mi.ret w) (.Attribute (.Name en p3) "what" pos) := fun F hF => by
  obtain ⟨⟨v, hB, dv⟩, hr⟩ := hok F hF.2.2
  refine peImp (pe_byWh TX hz hv he hb) fun σ H Q ⟨C, ρ, R, h⟩ => ?_
  exact ⟨_, R.raw _ hr, rfl, rfl, dd, v, rfl, R.ch _ _ (R.bb _ _ hB), poRet h R (dpMono R.bb dv)⟩
end
end Dn
set_option maxHeartbeats 4000000
namespace Dn
open PySem PySem.Spec PyProof.Rows L2

/-! ## a, b = (e1, e2) -/
def sPar (i j : Nat) (ms : Mi (List PyData)) : Rho → Fl := sBind ms fun ds r => match ds with
  | [d, e] => .nx ((r.set i (some (.val d))).set j (some (.val e)))
  | _ => .bad
def sParH (i j : Nat) (ma : Mi PyData) (mb : Mi (List PyData)) : Rho → Fl := sBind ma fun d => sBind mb fun xs r => .nx ((r.set i (some (.val d))).set j (some (.hot xs)))
section
variable {X : Cx} {W : WX} {P : Pn} {a b : Expr} {ma : Mi PyData} {i j : Nat} {x y : Str} {px py pt pt2 pos : Pos} {kt k2 : Nat}
theorem dsPar {ms : Mi (List PyData)} (hc : X.calm = true) (hN : X.N.Nodup) (hi : X.N[i]? = some x) (hj : X.N[j]? = some y) (hij : i ≠ j) (hx : X.env.scope.names.lookup x = some .local) (hy : X.env.scope.names.lookup y = some .local)
    (hip : i ∉ P.ps) (hjp : j ∉ P.ps) (h : DA X W P ms [a, b])
    (hw : swappedStores [.Tuple [.Name x px, .Name y py] kt pt] (.Tuple [a, b] k2 pt2) X.env = pure (some [x, y])) (hs : swapsWithSole [.Tuple [.Name x px, .Name y py] kt pt] (.Tuple [a, b] k2 pt2) pos.line X.env = pure false := by rfl) :
    DS X W P (sPar i j ms) (.Assign [.Tuple [.Name x px, .Name y py] kt pt] (.Tuple [a, b] k2 pt2) pos) := fun F hF =>
  psImp (ps_par hc hN hi hj hij hx hy (h F hF) hw hs) fun D σ H ⟨C, ρ, R, p⟩ => ⟨C, ρ, R, (posBind p).imp fun vs H1 ⟨C1, ρ1, ds, s1, R1, d1, h1⟩ => by
    obtain ⟨d1, d2⟩ := d1
    match ds, d2, d1, h1 with
    | [d, e], _, .cons v1 (.cons v2 .nil), h1 => exact ⟨_, _, rfl, h1 _ C1 H1 (Same.refl _) ((R1.setVal (notPin hF hip) v1).setVal (notPin hF hjp) v2)⟩⟩
theorem dsParH {mb : Mi (List PyData)} (hc : X.calm = true) (hN : X.N.Nodup) (hi : X.N[i]? = some x) (hj : X.N[j]? = some y) (hij : i ≠ j) (hx : X.env.scope.names.lookup x = some .local) (hy : X.env.scope.names.lookup y = some .local)
    (hip : i ∉ P.ps) (hjp : j ∉ P.ps) (ha : DE X W P ma a) (hb : DF X W P mb b)
    (hw : swappedStores [.Tuple [.Name x px, .Name y py] kt pt] (.Tuple [a, b] k2 pt2) X.env = pure (some [x, y])) (hs : swapsWithSole [.Tuple [.Name x px, .Name y py] kt pt] (.Tuple [a, b] k2 pt2) pos.line X.env = pure false := by rfl)
    (hs1 : starEach [a, b] X.env = (false, eval a X.env) :: starEach [b] X.env := by rfl) (hs2 : starEach [b] X.env = (false, eval b X.env) :: starEach [] X.env := by rfl) :
    DS X W P (sParH i j ma mb) (.Assign [.Tuple [.Name x px, .Name y py] kt pt] (.Tuple [a, b] k2 pt2) pos) := fun F hF =>
  psImp (ps_par hc hN hi hj hij hx hy (pa_cons (ha F hF) (pa_cons (hb F hF) pa_nil hs2) hs1) hw hs) fun D σ H ⟨C, ρ, R, p⟩ => ⟨C, ρ, R, (posBind p).imp fun v H1 ⟨C1, ρ1, d, s1, R1, d1, h1⟩ => ⟨C1, ρ1, R1, by
    unfold sBind at h1
    cases e : mb ρ1 with
    | ok xs r =>
      rw [e] at h1
      intro q ws C' H' s2 R2 hn hh hd hx h0 hg
      refine ⟨_, _, rfl, h1 _ C' H' s2 ((R2.setVal (notPin hF hip) (dpMono s2 d1)).setHot (notPin hF hjp) hn hh hd (fun k zs z => ?_) h0 hg)⟩
      by_cases hk : i = k
      · subst hk
        by_cases hl : i < r.length
        · rw [List.getElem?_set_self hl] at z
          cases z
        · rw [List.getElem?_eq_none (by simpa using hl)] at z
          cases z
      · rw [List.getElem?_set_ne hk] at z ⊢
        exact hx k zs z
    | ex c w r =>
      rw [e] at h1
      exact h1 σ
    | bad =>
      rw [e] at h1
      exact h1⟩⟩
end

/-! ## f(a = .., b = ..) -/
def DK (X : Cx) (W : WX) (P : Pn) (m : Mi (List AEnt)) (kws : List Keyword) : Prop := ∀ F : Fr0, FOk F P → PK X kws (tM X F W (RelA X kws.length) m)
theorem pkImp {X : Cx} {kws : List Keyword} {t t' : TA} (h : PK X kws t) (i : ∀ (σ : L2.St) H Q, t' σ H Q → t σ H Q) : PK X kws t' := ⟨fun ps pins s σ H Q I w => h.run ps pins s σ H Q I (i σ H Q w)⟩
theorem dkNil {X : Cx} {W : WX} {P : Pn} : DK X W P aNil [] := fun F _ => pkImp pk_nil fun σ H Q ⟨C, ρ, R, h⟩ => poRet h R ⟨.nil, rfl⟩
theorem dkVal {X : Cx} {W : WX} {P : Pn} {a : Expr} {ma : Mi PyData} {ms : Mi (List AEnt)} {nm : Option Str} {kpos : Pos} {kws : List Keyword} (ha : DE X W P ma a) (hr : DK X W P ms kws) : DK X W P (aVal ma ms) (⟨nm, a, kpos⟩ :: kws) :=
  fun F hF => pkImp (pk_cons (ha F hF) (hr F hF)) fun σ H Q ⟨C, ρ, R, h⟩ => by
    refine ⟨C, ρ, R, (poBind h).imp fun x H1 ⟨C1, ρ1, d, s1, R1, d1, h1⟩ => ⟨C1, ρ1, R1, (poBind h1).imp fun xs H2 ⟨C2, ρ2, ds, s2, R2, d2, h2⟩ => ?_⟩⟩
    exact poRet h2 R2 ⟨.cons (dpMono s2 d1) d2.1, congrArg (· + 1) d2.2⟩
structure DfnK (Pg : Program) (w : World) (K : PySem.W.Frag) (mg : Str → Option Value) (base : Heap) (T : List (Addr × Str)) (k : Nat) (x : Str) (ps : List Str) (fm : List Ent → FO) : Prop where
  ex : ∃ (f : Addr) (fd : FuncData), mg x = some (.ref f) ∧ PySem.W.keepIn K (.ref f) = true ∧ (∀ (s : Shared) (us : List Value), us.length = ps.length → BindsTo s fd ⟨[], ps.zip us⟩ (ps.zip us)) ∧ FnG Pg w K mg base k f fd ps (spM T mg ps.length fm)
theorem dfnOkK {Pg : Program} {w : World} {K : PySem.W.Frag} {mg : Str → Option Value} {base : Heap} {x qual : Str} {st : Stmt} {f : Addr} {fd : FuncData} {N ps : List Str} {k : Nat} {P : List Nat} {T : List (Addr × Str)} {body : Rho → Fl} (FF : Fun K x qual st f fd) (S : FnScope N ps (defScope st)) (hle : ps.length ≤ N.length)
    (hmg : mg x = some (.ref f)) (hb : ∀ (s : Shared) (us : List Value), us.length = ps.length → BindsTo s fd ⟨[], ps.zip us⟩ (ps.zip us))
    (hbody : ∀ (cdv : Value) (A : Around) (outer : List Env) (s : Shared) (H : Hp) (E : XK), A.guards = some [] → Room k (A.deeper (PyProof.Rows.envOfC qual (defScope st) s.heap.objs.size f cdv)) →
      DSs (cxOf (L2.CX Pg w) Pg w K mg base N qual (defScope st) f cdv A outer s H E) (fun cls d _ H' => E cls d H') ⟨P, T, fun _ => True⟩ body (defBody st)) : DfnK Pg w K mg base T (k + 1) x ps (fnM body N.length P) :=
  ⟨f, fd, hmg, FF.kp, hb, dfnFn FF S hle hbody⟩
theorem deCallK {X : Cx} {W : WX} {P : Pn} {kws : List Keyword} {ms : Mi (List AEnt)} {fm : List Ent → FO} {k : Nat} {ps : List Str} {x : Str} {p pos : Pos} (D : DfnK X.prog X.w X.K X.mg X.base P.tb k x ps fm) (hG : X.A.guards = some []) (hr : Room k X.A) (tk : Takes X W) (ha : DK X W P ms kws)
    (hg : Gl X x) (hall : (backToKw pos (keywordEach kws X.env)).all (·.1.isSome) = true := by rfl) (hks : (backToKw pos (keywordEach kws X.env)).filterMap (·.1) = ps := by rfl)
    (hn : kws.length = ps.length := by rfl) (hdb : (x == ("__debug__" : Str)) = false := by decide) (hpl : ((backTo pos (starEach [] X.env)).any (·.1) || (backToKw pos (keywordEach kws X.env)).any (·.1.isNone)) = false := by rfl) :
    DE X W P (mCall fm ms) (.Call (.Name x p) [] kws pos) := fun F hF => by
  obtain ⟨f, fd, hm, hk, hb, FN⟩ := D.ex
  constructor
  intro pins s σ H Q I ⟨C, ρ, R, h⟩
  refine wpAny_Call_Name_kw (ld_glob I hg hm ?_ hdb)
  refine PySem.W.callWith_KW0 (h₀ := X.base) I.ok.mod.kin hk hall (thn ((ha F hF).run pos pins s σ H _ I ⟨C, ρ, R, poBind h⟩) fun us s1 ⟨vs, H1, I1, rv, C1, ρ1, as, s1', R1, d1, h1⟩ => ⟨I1.kIn, ?_⟩) hpl
  rw [hks]
  obtain ⟨d1, d2⟩ := d1
  have etb : F.tb = P.tb := hF.2.1
  have sp : spM P.tb X.mg ps.length fm vs H1 Q (WE W σ) := by
    cases e1 : entsOf as ρ1 with
    | none =>
      simp only [e1] at h1
      exact h1.elim
    | some ens =>
      simp only [e1] at h1
      obtain ⟨g1, g2⟩ := entsOk R1 d1 e1
      by_cases nd : (hix as).Nodup
      · simp only [if_pos nd] at h1
        refine ⟨(pairLen d1).trans (d2.trans hn), C1, ens, R1.ch, by rw [← etb]; exact R1.tabs, R1.tabC, g1, nodupAd R1 g2 nd, ?_⟩
        rw [← etb]
        cases ef : fm ens with
        | rt d outs =>
          simp only [ef] at h1
          exact callBack (W := W) (X := X) R1 nd g2 (by cases d <;> exact h1)
        | ex c w outs =>
          simp only [ef] at h1
          exact fun A dd v C' H' hm cx q1 q2 => h1 A dd v C' H' hm cx.cc (R1.call cx nd g2) q1 q2
        | bad =>
          simp only [ef] at h1
          exact h1
      · simp only [if_neg nd] at h1
        exact h1.elim
  have hl : us.length = ps.length := rv.length.symm.trans (FN.len _ _ _ _ sp)
  show wpAny _ _ (call (.ref f) [] (ps.zip us)) _ _ _
  apply wpAny_call
  refine codeAny_mono (FN.run X.A X.stack s1 H1 ⟨[], ps.zip us⟩ us vs Q (WE W σ) hG hr I1.env0 (hb s1 us hl) rv sp) ?_
  intro res s' hres
  match res, hres with
  | .error e, hres => exact passAt tk σ pins H1 s1 e s' I1 hres
  | .ok (.ret u), hres => exact I1.after hres
  | .ok .next, hres => exact False.elim hres
  | .ok .brk, hres => exact False.elim hres
  | .ok .cont, hres => exact False.elim hres
end Dn
set_option maxHeartbeats 4000000
namespace Dn
open PySem PySem.Spec PyProof.Rows L2

/-! ## the law's end, with tables of code objects -/
def noLst (K : PySem.W.Frag) : Bool := K.all fun p => !(p.2.cls == Value.type "list")
theorem noLst_at {K : PySem.W.Frag} {a : Addr} {o : Obj} (h : noLst K = true) (hc : o.cls = .type "list") : K.lookup a ≠ some o := fun e => by
  unfold noLst at h
  induction K with
  | nil => cases e
  | cons p r ih =>
    rw [List.all_cons, Bool.and_eq_true] at h
    obtain ⟨b, u⟩ := p
    rw [List.lookup_cons] at e
    cases q : a == b with
    | true =>
      rw [q] at e
      cases e
      have z := h.1
      dsimp only at z
      rw [hc] at z
      exact absurd z (by decide)
    | false =>
      rw [q] at e
      exact ih h.2 e
abbrev tabObj0 : Obj := { cls := .none, data := .fields #[] }
/-- the script and the tables, and nothing else -/
def lawHp (a : Addr) (o : Obj) (xs : List V) (ts : List Addr) : Hp := fun b => if b = a then some (.frz o (.lst xs)) else if b ∈ ts then some (.tbl #[]) else none
section
variable {a : Addr} {o : Obj} {xs : List V} {ts : List Addr}
theorem lawHp_a : lawHp a o xs ts a = some (.frz o (.lst xs)) := if_pos rfl
theorem lawHp_t {b : Addr} (h : b ∈ ts) (n : b ≠ a) : lawHp a o xs ts b = some (.tbl #[]) := (if_neg n).trans (if_pos h)
theorem lawHp_or {b : Addr} {u : HO} (h : lawHp a o xs ts b = some u) : (b = a ∧ u = .frz o (.lst xs)) ∨ (b ≠ a ∧ b ∈ ts ∧ u = .tbl #[]) := by
  unfold lawHp at h
  split at h
  · rename_i e
    exact .inl ⟨e, (Option.some.inj h).symm⟩
  · rename_i n
    split at h
    · rename_i m
      exact .inr ⟨n, m, (Option.some.inj h).symm⟩
    · cases h
end
theorem lawGT {Pg : Program} {w : World} {K : PySem.W.Frag} {mg mb : Str → Option Value} {k : Nat} {fa a : Addr} {cs : List (Addr × Addr)} {fd : FuncData} {x : Str} {sp : Sp} {sh : Shared} {vs : List Value} {ns : List Int}
    (KX : K.In sh.heap) (hns : sh.heap.Ns mainGlobals mg) (hb : sh.heap.Ns builtinsNs mb) (hbb : ∀ y : Str, y ≠ "__name__" → mb y = bootBuiltins y) (hlim : sh.heap.NoLimit) (hg : sh.gens = #[])
    (hbm : ∃ (bm : Addr) (ob : Obj), mg "__builtins__" = some (.ref bm) ∧ bm ≠ builtinsNs ∧ sh.heap.get? bm = some ob ∧ ob.cls = .type "module" ∧ ob.dict = some builtinsNs ∧ ob.data = .plain)
    (hT : ∀ p ∈ cs, sh.heap.get? p.2 = some tabObj0) (nT : ∀ p ∈ cs, K.lookup p.2 = none) (hC : ∀ p ∈ cs, PySem.W.CodeHd sh.heap p.1 p.2) (hL : noLst K = true)
    (ha : sh.heap.get? a = some { cls := .type "list", data := .seq vs.toArray }) (hi : IntsAre vs ns) (hl : ns.length ≤ sizeLine) (hr : Room k callerA)
    (F : ∀ base : Heap, K.In base → base.Ns mainGlobals mg → (∀ p ∈ cs, LamX.TabB base mg p.1 p.2) → FnG Pg w K mg base k fa fd [x] sp) (hbind : ∀ (s : Shared) (u : Value), BindsTo s fd ⟨[u], []⟩ [(x, u)])
    (hsp : ∀ (o : Obj) (ts : List Addr), ts = cs.map (·.2) → a ∉ ts → sp [.ref a] (lawHp a o (ns.map V.int) ts) (fun v _ => v = .bl true) fun _ _ _ => False) :
    codeAny (model Pg w) callerA (.call (.ref fa) ⟨[.ref a], []⟩) (fun r s' => r = .ok (.ret (.bool true)) ∧ OldK sh.heap s'.heap ∧ s'.os = sh.os ∧ AllBare s'.gens) sh := by
  have rv := vals_ints hi
  have lenV := hi.length
  have tabAt : ∀ b, b ∈ cs.map (·.2) → sh.heap.get? b = some tabObj0 ∧ K.lookup b = none := by
    intro b hb
    obtain ⟨p, hp, e⟩ := List.mem_map.mp hb
    subst e
    exact ⟨hT p hp, nT p hp⟩
  have aT : a ∉ cs.map (·.2) := by
    intro z
    have q := (tabAt a z).1
    rw [ha] at q
    have y : Data.seq vs.toArray _ = Data.fields #[] := congrArg Obj.data (Option.some.inj q)
    cases y
  have nK : K.lookup a = none := by
    cases q : K.lookup a with
    | none => rfl
    | some o =>
      have e := KX a o q
      rw [ha] at e
      cases e
      exact absurd q (noLst_at hL rfl)
  generalize eH : lawHp a { cls := .type "list", data := .seq vs.toArray } (ns.map V.int) (cs.map (·.2)) = H
  have orH : ∀ b u, H b = some u → (b = a ∧ u = .frz { cls := .type "list", data := .seq vs.toArray } (.lst (ns.map V.int))) ∨ (b ≠ a ∧ b ∈ cs.map (·.2) ∧ u = .tbl #[]) := by
    intro b u h
    subst eH
    exact lawHp_or h
  have stay : ∀ {b : Addr} {o : Obj}, sh.heap.get? b = some o → o.cls ≠ .type "list" → o ≠ tabObj0 → (hidT sh.heap H).get? b = some o := by
    intro b o e n1 n2
    apply hidT_get e
    cases q : H b with
    | none => rfl
    | some u =>
      rcases orH b u q with ⟨rfl, _⟩ | ⟨_, m, _⟩
      · rw [ha] at e
        cases e
        exact absurd rfl n1
      · rw [(tabAt b m).1] at e
        cases e
        exact absurd rfl n2
  have dicts : ∀ {b : Addr} {m : Str → Option Value}, sh.heap.Ns b m → (hidT sh.heap H).Ns b m := by
    rintro b m ⟨o, es, ep, e, d, r⟩
    refine ⟨o, es, ep, hidT_get e ?_, d, r⟩
    cases q : H b with
    | none => rfl
    | some u =>
      rcases orH b u q with ⟨rfl, _⟩ | ⟨_, z, _⟩
      · rw [ha] at e
        cases e
        cases d
      · rw [(tabAt b z).1] at e
        cases e
        cases d
  have kin : K.In (hidT sh.heap H) := by
    intro b o e
    apply hidT_get (KX b o e)
    cases q : H b with
    | none => rfl
    | some u =>
      rcases orH b u q with ⟨rfl, _⟩ | ⟨_, z, _⟩
      · rw [nK] at e
        cases e
      · rw [(tabAt b z).2] at e
        cases e
  have md : Mod K mg (hidT sh.heap H) := by
    obtain ⟨mc, l1, l2⟩ := hlim
    exact ⟨kin, dicts hns, ⟨mb, dicts hb, hbb⟩, ⟨mc, dicts l1, l2⟩⟩
  have tb : ∀ p ∈ cs, LamX.TabB (hidT sh.heap H) mg p.1 p.2 := by
    intro p hp
    have atP := hT p hp
    constructor
    · obtain ⟨o, us, file, tf, flags, tg, inF, text, tt, e1, r1, r2, r3, r⟩ := hC p hp
      refine ⟨o, us, file, tf, flags, tg, inF, text, tt, stay e1 (fun z => ?_) (fun z => ?_), r1, r2, r3, r⟩
      · rw [r1] at z
        exact absurd z (by decide)
      · rw [z] at r1
        exact absurd r1 (by decide)
    · obtain ⟨bm, ob, b1, b2, b3, b4, b5, b6⟩ := hbm
      refine ⟨bm, ob, b1, b2, fun z => ?_, fun z => ?_, stay b3 (fun z => ?_) (fun z => ?_), b4, b5, b6⟩
      · obtain ⟨o, es, ep, e, d, _⟩ := hns
        rw [z, e] at b3
        cases b3
        rw [d] at b6
        cases b6
      · rw [z, atP] at b3
        cases b3
        cases b6
      · rw [b4] at z
        exact absurd z (by decide)
      · rw [z] at b6
        cases b6
    · intro z
      obtain ⟨o, es, ep, e, d, _⟩ := hns
      rw [z, atP] at e
      cases e
      cases d
  have ok : HOk Pg w H sh.heap := by
    intro b u q
    rcases orH b u q with ⟨rfl, rfl⟩ | ⟨_, m, rfl⟩
    · exact ⟨ha, by rw [List.length_map]; exact hl, vs, _, rv, ha⟩
    · exact (tabAt b m).1
  have e0 : Env0 Pg w K mg (hidT sh.heap H) callerA [] sh H :=
    { frames := rfl, mod := md, «bs» := fun b o => of_hidT, bsz := Nat.le_of_eq (hidT_size _ _), funs := trivial, frf := fun b hb' => (by cases hb'), hok := ok, bare := .of_eq hg }
  have SP : sp [.ref a] H (fun v _ => v = .bl true) fun _ _ _ => False := by
    rw [← eH]
    exact hsp _ _ rfl aT
  refine codeAny_mono ((F _ kin (dicts hns) tb).run callerA [] sh H ⟨[.ref a], []⟩ [.ref a] [.ref a] _ _ rfl hr e0 (hbind sh (.ref a)) (.cons rfl .nil) SP) ?_
  intro res s' hres
  match res, hres with
  | .error e, hres =>
    obtain ⟨_, _, _, _, _, _, _, _, _, _, _, _, z⟩ := hres
    exact z.elim
  | .ok .next, hres => exact False.elim hres
  | .ok .brk, hres => exact False.elim hres
  | .ok .cont, hres => exact False.elim hres
  | .ok (.ret u), hres =>
    obtain ⟨v, H', os, bare, un, ok', rel, q⟩ := hres
    have ev : v = .bl true := q
    subst ev
    have eu : u = Value.bool true := rel
    subst eu
    have kept : ∀ b o, b ∉ cs.map (·.2) → sh.heap.get? b = some o → s'.heap.get? b = some o := by
      intro b o nb e
      cases q : H b with
      | none => exact un.keep b o e q (fun y => by cases y) (fun y => by cases y)
      | some u =>
        rcases orH b u q with ⟨rfl, rfl⟩ | ⟨_, z, _⟩
        · have z2 := un.frzs b _ _ q
          have e2 := (ok' b _ z2).1
          rw [ha] at e
          cases e
          exact e2
        · exact absurd z nb
    have grew : ∀ b, b ∈ cs.map (·.2) → ∃ more : Array Value, s'.heap.get? b = some { cls := .none, data := .fields more } := by
      intro b hb
      have hne : b ≠ a := fun z => aT (by rw [← z]; exact hb)
      have q : H b = some (.tbl #[]) := by
        rw [← eH]
        exact lawHp_t hb hne
      obtain ⟨more, z⟩ := un.tbls b #[] q
      exact ⟨_, ok' b _ z⟩
    refine ⟨rfl, ⟨fun b o e => ?_, fun b o e => ?_⟩, os, bare⟩
    · by_cases hb : b ∈ cs.map (·.2)
      · obtain ⟨more, hm⟩ := grew b hb
        obtain ⟨p, hp, ep⟩ := List.mem_map.mp hb
        subst ep
        rw [hT p hp] at e
        cases e
        refine .inr (.inl ⟨((hC p hp).tab (hT p hp)).isCodeTable, rfl, #[], more, rfl, ?_⟩)
        rw [Array.empty_append]
        exact hm
      · exact .inl (kept b o hb e)
    · by_cases hb : b ∈ cs.map (·.2)
      · obtain ⟨more, hm⟩ := grew b hb
        exact ⟨_, hm⟩
      · exact ⟨o, kept b o hb e⟩

/-- what is known of the law at the head's heap -/
def LawG (l : PySem.W.OpenLaw) (w : World) (K : PySem.W.Frag) (k n : Nat) (x : Str) (mg : Str → Option Value) (fa : Addr) (h : Heap) : Prop :=
  ∃ (fd : FuncData) (cs : List (Addr × Addr)) (sp : Sp), (∀ p ∈ cs, h.get? p.2 = some tabObj0) ∧ (∀ p ∈ cs, K.lookup p.2 = none) ∧ (∀ p ∈ cs, PySem.W.CodeHd h p.1 p.2) ∧ noLst K = true ∧ (∀ (s : Shared) (u : Value), BindsTo s fd ⟨[u], []⟩ [(x, u)]) ∧
    (∀ (o : Obj) (a : Addr) (ns : List Int) (ts : List Addr), ns.length ≤ n → (∀ z ∈ ns, Builtin.Int.intBits z ≤ 1048576) → ts = cs.map (·.2) → a ∉ ts → sp [.ref a] (lawHp a o (ns.map V.int) ts) (fun v _ => v = .bl true) fun _ _ _ => False) ∧
    ∀ base : Heap, K.In base → base.Ns mainGlobals mg → (∀ p ∈ cs, LamX.TabB base mg p.1 p.2) → FnG l.prog w K mg base k fa fd [x] sp
theorem walkGT {l : PySem.W.OpenLaw} {n k : Nat} {q : Program} {loose : List Str} {XP : (Str → Option Value) → Heap → Prop} {YP : World → Heap → Prop} {d : DefRec} {K : Params → PySem.W.Frag} {x : Str} (names : List Str)
    (hn : l.most = some n) (hn2 : n ≤ sizeLine) (hdf : d.params.defaults = []) (hr : Room k callerA) (hY : ∀ (w : World) (h : Heap), YP w h → (K w.params).In h) (hrec : names.all (fun y => ((recsOf q).find? (fun e => e.name == y)).isSome) = true)
    (F : ∀ (w : World) (mg : Str → Option Value) (fa : Addr) (h : Heap), (K w.params).In h → h.Ns mainGlobals mg → mg d.name = some (.ref fa) → (∀ y ∈ names, ∀ c P, PySem.W.tabIn (K w.params) y = some (c, P) → PySem.W.CodeHd h c P ∧ h.get? P = some tabObj0) → LawG l w (K w.params) k n x mg fa h) :
    PySem.W.WalkO q loose XP YP l.row.toRowW d [] (fun f vs => PySem.call f vs) := by
  apply Att.attach_callB hn hdf
  intro w s0 sh mg mb fa o pm cd doc a vs ns G Y _ _ _ hmg hobj hints hlen hbits hgn
  have KX := hY w _ Y
  obtain ⟨fd, cs, sp, hT, nT, hC, hL, hb, hsp, hF⟩ := F w mg fa _ KX G.T.g hmg fun y hy c P e => by
    obtain ⟨dr, hd⟩ := Option.isSome_iff_exists.mp (List.all_eq_true.mp hrec y hy)
    exact PySem.W.tab_of G.T KX hd e
  exact lawGT KX G.T.g G.T.b G.T.builtins G.T.nolimit hgn G.T.bmain hT nT hC hL hobj hints (Nat.le_trans hlen hn2) hr hF hb (fun o ts e hn => hsp o a ns ts hlen hbits e hn)
def intsD (ns : List Int) : PyData := .list (ns.map PyData.int)
theorem dpaInts {K : PySem.W.Frag} {C : Hp} : ∀ ns : List Int, DpAll K C (ns.map V.int) (ns.map PyData.int)
  | [] => .nil
  | n :: r => .cons (.int n) (dpaInts r)
theorem spLawG {mg : Str → Option Value} {fm : List Ent → FO} {T : List (Addr × Str)} {o : Obj} {a : Addr} {ns : List Int} {ts : List Addr} (hT : ∀ p ∈ T, p.1 ∈ ts) (ha : a ∉ ts) (h : fm [.val (intsD ns)] = .rt (.cold (.bool true)) []) :
    spM T mg 1 fm [.ref a] (lawHp a o (ns.map V.int) ts) (fun v _ => v = .bl true) fun _ _ _ => False := by
  have c0 : ∀ b u, (fun b => if b = a then some (HO.frz o (.lst (ns.map V.int))) else none : Hp) b = some u → b = a ∧ u = .frz o (.lst (ns.map V.int)) := by
    intro b u z
    by_cases hb : b = a
    · have z' := (if_pos hb).symm.trans z
      exact ⟨hb, (Option.some.inj z').symm⟩
    · have z' := (if_neg hb).symm.trans z
      cases z'
  refine ⟨rfl, fun b => if b = a then some (.frz o (.lst (ns.map V.int))) else none, [.val (intsD ns)], fun b u z => ?_, fun p hp => LamX.TabS.nil (lawHp_t (hT p hp) (fun z => ha (by rw [← z]; exact hT p hp))), fun b ps z => ?_, .cons (.lst (.inl (.inr ⟨o, if_pos rfl⟩)) (dpaInts ns)) .nil, List.nodup_nil, ?_⟩
  · obtain ⟨rfl, rfl⟩ := c0 b u z
    exact lawHp_a
  · obtain ⟨_, e⟩ := c0 b _ z
    cases e
  · rw [h]
    intro v C' H' _ dv
    cases dv
    rfl
end Dn
set_option maxHeartbeats 4000000
namespace Dn
open PySem PySem.Spec PyProof.Rows L2

/-! ## defs whose code object is known -/
section
variable {Pg : Program} {w : World} {K : PySem.W.Frag} {mg : Str → Option Value} {base : Heap}
/-- where a def stands -/
structure At (K : PySem.W.Frag) (mg : Str → Option Value) (x : Str) (st : Stmt) (ps : List Str) (f : Addr) (cdv : Value) : Prop where
  hm : mg x = some (.ref f)
  kp : PySem.W.keepIn K (.ref f) = true
  cd : PySem.W.codeIn K cdv x = true
  ex : ∃ (oc kV doc pm ct : Value) (an od : Option Addr) (osl : Array (Option Value)), K.lookup f = some ⟨oc, od, .func (PySem.W.fnOf x x (defArgs st) (defBody st) (defScope st) .none kV doc pm an cdv ct), osl⟩ ∧
    L2.Binds K (PySem.W.fnOf x x (defArgs st) (defBody st) (defScope st) .none kV doc pm an cdv ct) ps [] ∧ (∀ (s : Shared) (us : List Value), us.length = ps.length → BindsTo s (PySem.W.fnOf x x (defArgs st) (defBody st) (defScope st) .none kV doc pm an cdv ct) ⟨[], ps.zip us⟩ (ps.zip us))
theorem dfnC {x : Str} {st : Stmt} {f : Addr} {cdv : Value} {N ps : List Str} {k : Nat} {P : List Nat} {T : List (Addr × Str)} {body : Rho → Fl} (D : At K mg x st ps f cdv) (S : FnScope N ps (defScope st)) (hle : ps.length ≤ N.length)
    (hbody : ∀ (A : Around) (outer : List Env) (s : Shared) (H : Hp) (E : XK), A.guards = some [] → Room k (A.deeper (PyProof.Rows.envOfC x (defScope st) s.heap.objs.size f cdv)) →
      DSs (cxOf (L2.CX Pg w) Pg w K mg base N x (defScope st) f cdv A outer s H E) (fun cls d _ H' => E cls d H') ⟨P, T, fun _ => True⟩ body (defBody st)) :
    mg x = some (.ref f) ∧ Dfn Pg w K mg base T (k + 1) x ps.length (fnM body N.length P) ∧ DfnK Pg w K mg base T (k + 1) x ps (fnM body N.length P) ∧ ∀ fd oc od osl, K.lookup f = some ⟨oc, od, .func fd, osl⟩ → FnG Pg w K mg base (k + 1) f fd ps (spM T mg ps.length (fnM body N.length P)) := by
  obtain ⟨oc, kV, doc, pm, ct, an, od, osl, lk, hb, hk⟩ := D.ex
  have FN : FnG Pg w K mg base (k + 1) f (PySem.W.fnOf x x (defArgs st) (defBody st) (defScope st) .none kV doc pm an cdv ct) ps (spM T mg ps.length (fnM body N.length P)) :=
    ⟨fun vs H Q E h => h.1, fun A outer s H args us vs Q E hG hr e0 hbb rv hsp => LamX.run_ofS lk D.cd S hr e0 hbb rv hsp.1 fun hr' => coreFn hle (hbody A outer s H E hG hr') hsp⟩
  exact ⟨D.hm, ⟨f, _, ps, D.hm, D.kp, hb, FN⟩, ⟨f, _, D.hm, D.kp, hk, FN⟩, fun fd oc2 od2 osl2 lk2 => by
    rw [lk] at lk2
    cases lk2
    exact FN⟩
theorem dfnTC {x a : Str} {st : Stmt} {g : Addr} {cdv : Value} {N ps : List Str} {k : Nat} {T : List (Addr × Str)} {body : Out PyData → Rho → Fl} (D : At K mg x st (a :: ps) g cdv) (S : FnScope N (a :: ps) (defScope st)) (hN : N[0]? = some a) (hv : Vis (defScope st) a) (hle : ps.length + 1 ≤ N.length)
    (hd : (a == ("__debug__" : Str)) = false) (hc : (a == ("__classdict__" : Str)) = false)
    (hbody : ∀ (th : Out PyData) (ok : Fr0 → Prop) (A : Around) (outer : List Env) (s : Shared) (H : Hp) (E : XK), A.guards = some [] → Room k (A.deeper (PyProof.Rows.envOfC x (defScope st) s.heap.objs.size g cdv)) →
      Thunk (cxOf (L2.CX Pg w) Pg w K mg base N x (defScope st) g cdv A outer s H E) ok T a th →
      DSs (cxOf (L2.CX Pg w) Pg w K mg base N x (defScope st) g cdv A outer s H E) (fun cls d _ H' => E cls d H') ⟨[0], T, ok⟩ (body th) (defBody st)) : DfnT Pg w K mg base T k x ps.length (fnT body N.length) := by
  obtain ⟨oc, kV, doc, pm, ct, an, od, osl, lk, hb, hk⟩ := D.ex
  exact ⟨g, oc, .none, kV, doc, pm, cdv, ct, an, od, osl, st, a, ps, N, body, D.hm, D.kp, lk, D.cd, hb, S, hN, hv, hd, hc, rfl, hle, rfl, hbody⟩
end

abbrev Good (Pg : Program) (w : World) (K : PySem.W.Frag) (mg : Str → Option Value) (base : Heap) (T : List (Addr × Str)) (k : Nat) (x : Str) (ps : List Str) (fm : List Ent → FO) : Prop :=
  Dfn Pg w K mg base T k x ps.length fm ∧ DfnK Pg w K mg base T k x ps fm ∧ ∀ f, mg x = some (.ref f) → ∀ fd oc od osl, K.lookup f = some ⟨oc, od, .func fd, osl⟩ → FnG Pg w K mg base k f fd ps (spM T mg ps.length fm)
theorem goodOf {Pg : Program} {w : World} {K : PySem.W.Frag} {mg : Str → Option Value} {base : Heap} {T : List (Addr × Str)} {k : Nat} {x : Str} {ps : List Str} {fm : List Ent → FO} {f : Addr}
    (h : mg x = some (.ref f) ∧ Dfn Pg w K mg base T k x ps.length fm ∧ DfnK Pg w K mg base T k x ps fm ∧ ∀ fd oc od osl, K.lookup f = some ⟨oc, od, .func fd, osl⟩ → FnG Pg w K mg base k f fd ps (spM T mg ps.length fm)) : Good Pg w K mg base T k x ps fm := by
  obtain ⟨h0, h1, h2, h3⟩ := h
  refine ⟨h1, h2, fun f' e fd oc od osl lk => ?_⟩
  rw [h0] at e
  cases e
  exact h3 fd oc od osl lk
def lamQ (x : Str) : Str := x ++ ".<locals>." ++ "<lambda>"
theorem _root_.L2.Room.u64 {k : Nat} {A : Around} (r : Room k A) : A.units + 64 < cLine := r.units
theorem _root_.L2.Room.u65 {k : Nat} {A : Around} (r : Room k A) : A.units + 65 < cLine := by have := r.un; omega
theorem _root_.L2.Room.u80 {k : Nat} {A : Around} (r : Room k A) : A.units + 80 < cLine := by have := r.un; omega
def mNeg (m : Mi PyData) : Mi PyData := m.bind fun d => match d with
  | .int i => Mi.ret (.int (-i))
  | _ => fun _ => .bad
theorem deNeg {X : Cx} {W : WX} {P : Pn} {a : Expr} {ma : Mi PyData} {pos : Pos} (ha : DE X W P ma a) : DE X W P (mNeg ma) (.UnaryOp .USub a pos) := fun F hF =>
  peImp (pe_un un_neg (ha F hF)) fun σ H Q ⟨C, ρ, R, h⟩ => ⟨C, ρ, R, (poBind h).imp fun x H1 ⟨C1, ρ1, d, s1, R1, d1, h1⟩ => by
    cases d1 with
    | int i => exact ⟨i, rfl, poRet h1 R1 (.int _)⟩
    | _ => exact h1.elim⟩

theorem nin {i : Nat} {ps : List Nat} (h : ps.contains i = false) : i ∉ ps := fun z => by
  have q := List.contains_iff_mem.mpr z
  rw [h] at q
  cases q
theorem nins {vs ps : List Nat} (h : (vs.all fun v => !ps.contains v) = true) : ∀ v ∈ vs, v ∉ ps := fun v hv => nin (by
  have q := List.all_eq_true.mp h v hv
  simpa using q)
/-- a < b < c as a test -/
def mTChain (f g : PyData → PyData → Option Bool) (ma mb mc : Mi PyData) : Mi Bool := ma.bind fun a => mb.bind fun b => (Mi.opt (f a b)).bind fun k => if k then mc.bind fun c => Mi.opt (g b c) else Mi.ret false
theorem dtChain {X : Cx} {W : WX} {P : Pn} {a b c : Expr} {ma mb mc : Mi PyData} {op op' : CmpOp} {f g : PyData → PyData → Option Bool} {pos : Pos} (ho : OpR X (compareOp op) (rD (fB f))) (ho' : OpR X (compareOp op') (rD (fB g))) (ha : DE X W P ma a) (hb : DE X W P mb b) (hc : DE X W P mc c)
    (hm : lastMarks [op, op'] [b, c] = false := by with_unfolding_all rfl) : DT X W P (mTChain f g ma mb mc) (.Compare a [op, op'] [b, c] pos) :=
  fun F hF => ptImp (pt_chain ho ho' (ha F hF) (hb F hF) (hc F hF) hm) fun σ H Q ⟨C, ρ, R, h⟩ => by
    refine ⟨C, ρ, R, (poBind h).imp fun x H1 ⟨C1, ρ1, a, s1, R1, d1, h1⟩ => ⟨C1, ρ1, R1, (poBind h1).imp fun y H2 ⟨C2, ρ2, b, s2, R2, d2, h2⟩ => ?_⟩⟩
    cases e : f a b with
    | none =>
      simp only [e, Mi.opt, Mi.bind] at h2
      exact h2.elim
    | some k =>
      simp only [e, Mi.opt, Mi.bind] at h2
      refine ⟨C2, a, b, .bool k, by simp [fB, e], R2.ch, dpMono s2 d1, d2, fun v C3 H3 ex dv => ?_⟩
      cases dv
      have R3 := R2.grow ex
      refine ⟨k, rfl, ?_⟩
      cases k with
      | false =>
        simp only [Bool.false_eq_true, if_false] at h2
        exact iteF ⟨_, rfl, h2 _ C3 H3 ex.cc R3 rfl⟩
      | true =>
        simp only [if_true] at h2
        refine iteT ⟨C3, ρ2, R3, (poBind (h2.mono ex.cc)).imp fun z H4 ⟨C4, ρ4, c, s4, R4, d4, h4⟩ => ?_⟩
        cases e2 : g b c with
        | none =>
          simp only [e2, Mi.opt] at h4
          exact h4.elim
        | some k2 =>
          simp only [e2, Mi.opt] at h4
          refine ⟨C4, b, c, .bool k2, by simp [fB, e2], R4.ch, dpMono s4 (dpMono ex.cc d2), d4, fun v C' H' ex dv => ?_⟩
          cases dv
          exact ⟨k2, rfl, h4 k2 C' H' ex.cc (R4.grow ex) rfl⟩
end Dn
set_option maxHeartbeats 4000000
namespace Dn
open PySem PySem.Spec L2
/-! ## the mirrors, worked out -/
section
variable {α β : Type}
@[simp] theorem e_ret (a : α) (r : Rho) : Mi.ret a r = .ok a r := rfl
@[simp] theorem e_bind (m : Mi α) (f : α → Mi β) (r : Rho) : Mi.bind m f r = match m r with
  | .ok a r' => f a r'
  | .ex c w r' => .ex c w r'
  | .bad => .bad := rfl
@[simp] theorem e_some (a : α) (r : Rho) : Mi.opt (some a) r = .ok a r := rfl
@[simp] theorem e_none (r : Rho) : (Mi.opt (none : Option α)) r = .bad := rfl
@[simp] theorem e_sBind (m : Mi α) (k : α → Rho → Fl) (r : Rho) : sBind m k r = match m r with
  | .ok a r' => k a r'
  | .ex c w r' => .ex c w r'
  | .bad => .bad := rfl
@[simp] theorem e_sSeq (s u : Rho → Fl) (r : Rho) : sSeq s u r = match s r with
  | .nx r' => u r'
  | .rt d r' => .rt d r'
  | .bk r' => .bk r'
  | .ct r' => .ct r'
  | .ex c w r' => .ex c w r'
  | .bad => .bad := rfl
@[simp] theorem e_var (i : Nat) (r : Rho) : mVar i r = match r[i]? with
  | some (some (.val d)) => .ok d r
  | some (some (.hot xs)) => .ok (.list xs) (r.set i (some (.val (.list xs))))
  | _ => .bad := rfl
@[simp] theorem e_bin (f : PyData → PyData → Option PyData) (ma mb : Mi PyData) (r9 : Rho) : mBin f ma mb r9 = (ma.bind fun a => mb.bind fun b => Mi.opt (f a b)) r9 := rfl
@[simp] theorem e_tst (f : PyData → PyData → Option Bool) (ma mb : Mi PyData) (r9 : Rho) : mTst f ma mb r9 = (ma.bind fun a => mb.bind fun b => Mi.opt (f a b)) r9 := rfl
@[simp] theorem e_fB (f : PyData → PyData → Option Bool) (a b : PyData) : fB f a b = (f a b).map PyData.bool := rfl
@[simp] theorem e_tru (m : Mi PyData) (r9 : Rho) : mTru m r9 = (m.bind fun d => Mi.opt (truth d)) r9 := rfl
@[simp] theorem e_and (ma mb : Mi PyData) (r9 : Rho) : mAnd ma mb r9 = (ma.bind fun a => (Mi.opt (truth a)).bind fun k => if k then mb else Mi.ret a) r9 := rfl
@[simp] theorem e_or (ma mb : Mi PyData) (r9 : Rho) : mOr ma mb r9 = (ma.bind fun a => (Mi.opt (truth a)).bind fun k => if k then Mi.ret a else mb) r9 := rfl
@[simp] theorem e_not (ma : Mi PyData) (r9 : Rho) : mNot ma r9 = (ma.bind fun a => (Mi.opt (truth a)).bind fun k => Mi.ret (.bool (!k))) r9 := rfl
@[simp] theorem e_tand (ma mb : Mi Bool) (r9 : Rho) : tAndM ma mb r9 = (ma.bind fun k => if k then mb else Mi.ret false) r9 := rfl
@[simp] theorem e_tor (ma mb : Mi Bool) (r9 : Rho) : tOrM ma mb r9 = (ma.bind fun k => if k then Mi.ret true else mb) r9 := rfl
@[simp] theorem e_tnot (ma : Mi Bool) (r9 : Rho) : tNotM ma r9 = (ma.bind fun k => Mi.ret (!k)) r9 := rfl
@[simp] theorem e_if (t : Mi Bool) (ma mb : Mi PyData) (r9 : Rho) : mIf t ma mb r9 = (t.bind fun k => if k then ma else mb) r9 := rfl
@[simp] theorem e_isN (ma : Mi PyData) (r9 : Rho) : mIsN ma r9 = (ma.bind fun a => Mi.ret (.bool (isNone a))) r9 := rfl
@[simp] theorem e_notN (ma : Mi PyData) (r9 : Rho) : mNotN ma r9 = (ma.bind fun a => Mi.ret (.bool (!isNone a))) r9 := rfl
@[simp] theorem e_tisN (ma : Mi PyData) (r9 : Rho) : tIsNM ma r9 = (ma.bind fun a => Mi.ret (isNone a)) r9 := rfl
@[simp] theorem e_tnotN (ma : Mi PyData) (r9 : Rho) : tNotNM ma r9 = (ma.bind fun a => Mi.ret (!isNone a)) r9 := rfl
@[simp] theorem e_nil (r9 : Rho) : mNil r9 = (Mi.ret []) r9 := rfl
@[simp] theorem e_cons (m : Mi PyData) (ms : Mi (List PyData)) (r9 : Rho) : mCons m ms r9 = (m.bind fun d => ms.bind fun ds => Mi.ret (d :: ds)) r9 := rfl
@[simp] theorem e_tup (ms : Mi (List PyData)) (r9 : Rho) : mTup ms r9 = (ms.bind fun ds => Mi.ret (.tuple ds)) r9 := rfl
@[simp] theorem e_lst (ms : Mi (List PyData)) (r9 : Rho) : mLst ms r9 = (ms.bind fun ds => Mi.ret (.list ds)) r9 := rfl
@[simp] theorem e_blt (f : List PyData → Option PyData) (ms : Mi (List PyData)) (r9 : Rho) : mBlt f ms r9 = (ms.bind fun ds => Mi.opt (f ds)) r9 := rfl
@[simp] theorem e_expr (m : Mi PyData) (r9 : Rho) : sExpr m r9 = (sBind m fun _ r => .nx r) r9 := rfl
@[simp] theorem e_sret (m : Mi PyData) (r9 : Rho) : sRet m r9 = (sBind m fun d r => .rt (.cold d) r) r9 := rfl
@[simp] theorem e_sretF (m : Mi (List PyData)) (r9 : Rho) : sRetF m r9 = (sBind m fun d r => .rt (.fresh d) r) r9 := rfl
@[simp] theorem e_sif (t : Mi Bool) (s u : Rho → Fl) (r9 : Rho) : sIf t s u r9 = (sBind t fun k r => if k then s r else u r) r9 := rfl
@[simp] theorem e_set (i : Nat) (m : Mi PyData) (r9 : Rho) : sSet i m r9 = (sBind m fun d r => .nx (r.set i (some (.val d)))) r9 := rfl
@[simp] theorem e_seth (i : Nat) (m : Mi (List PyData)) (r9 : Rho) : sSetHot i m r9 = (sBind m fun d r => .nx (r.set i (some (.hot d)))) r9 := rfl
@[simp] theorem e_ofF (m : Mi (List PyData)) (r9 : Rho) : mOfF m r9 = (m.bind fun ds => Mi.ret (.list ds)) r9 := rfl
@[simp] theorem e_hot (r : Rho) (i : Nat) : hotOf r i = match r[i]? with
  | some (some (.hot xs)) => some xs
  | _ => none := rfl
@[simp] theorem e_gnm (i : Nat) (d : PyData) (r : Rho) : gNm i d r = some (r.set i (some (.val d))) := rfl
@[simp] theorem e_asg (g : PyData → Rho → Option Rho) (m : Mi PyData) (r9 : Rho) : sAsg g m r9 = (sBind m fun d r => match g d r with
  | some r' => .nx r'
  | none => .bad) r9 := rfl
@[simp] theorem e_iter (m : Mi PyData) (r9 : Rho) : mIter m r9 = (m.bind fun d => Mi.opt (items d)) r9 := rfl
@[simp] theorem e_rng (f : List PyData → Option (List PyData)) (ms : Mi (List PyData)) (r9 : Rho) : mRng f ms r9 = (ms.bind fun ds => Mi.opt (f ds)) r9 := rfl
@[simp] theorem e_for (m : Mi (List PyData)) (g : PyData → Rho → Option Rho) (b : Rho → Fl) (r9 : Rho) : sFor m g b r9 = (sBind m (forL g b)) r9 := rfl
@[simp] theorem e_anil (r9 : Rho) : aNil r9 = (Mi.ret []) r9 := rfl
@[simp] theorem e_aval (m : Mi PyData) (ms : Mi (List AEnt)) (r9 : Rho) : aVal m ms r9 = (m.bind fun d => ms.bind fun as => Mi.ret (.d d :: as)) r9 := rfl
@[simp] theorem e_ahot (i : Nat) (ms : Mi (List AEnt)) (r : Rho) : aHot i ms r = match hotOf r i with
  | some _ => (ms.bind fun as => Mi.ret (.h i :: as)) r
  | none => .bad := rfl
@[simp] theorem e_ents0 (r : Rho) : entsOf [] r = some [] := rfl
@[simp] theorem e_entsd (x : PyData) (as : List AEnt) (r : Rho) : entsOf (.d x :: as) r = (entsOf as r).map (Ent.val x :: ·) := rfl
@[simp] theorem e_entsh (i : Nat) (as : List AEnt) (r : Rho) : entsOf (.h i :: as) r = match hotOf r i with
  | some xs => (entsOf as r).map (Ent.hot xs :: ·)
  | none => none := rfl
@[simp] theorem e_hix0 : hix [] = [] := rfl
@[simp] theorem e_hixd (x : PyData) (as : List AEnt) : hix (.d x :: as) = hix as := rfl
@[simp] theorem e_hixh (i : Nat) (as : List AEnt) : hix (.h i :: as) = i :: hix as := rfl
@[simp] theorem e_call (fm : List Ent → FO) (ms : Mi (List AEnt)) (r0 : Rho) : mCall fm ms r0 = match ms r0 with
  | .ok as r => (match entsOf as r with
    | none => .bad
    | some es => if (hix as).Nodup then (match fm es with
        | .rt (.cold d) outs => .ok d (upHot r (hix as) outs)
        | .rt (.fresh ds) outs => .ok (.list ds) (upHot r (hix as) outs)
        | .ex c w outs => .ex c w (upHot r (hix as) outs)
        | .bad => .bad) else .bad)
  | .ex c w r => .ex c w r
  | .bad => .bad := by
  unfold mCall Mi.bind
  cases ms r0 <;> rfl
@[simp] theorem e_callF (fm : List Ent → FO) (ms : Mi (List AEnt)) (r0 : Rho) : mCallF fm ms r0 = match ms r0 with
  | .ok as r => (match entsOf as r with
    | none => .bad
    | some es => if (hix as).Nodup then (match fm es with
        | .rt (.fresh ds) outs => .ok ds (upHot r (hix as) outs)
        | .rt (.cold _) _ => .bad
        | .ex c w outs => .ex c w (upHot r (hix as) outs)
        | .bad => .bad) else .bad)
  | .ex c w r => .ex c w r
  | .bad => .bad := by
  unfold mCallF Mi.bind
  cases ms r0 <;> rfl
@[simp] theorem e_up0 (r : Rho) (xs : List (List PyData)) : upHot r [] xs = r := rfl
@[simp] theorem e_up1 (r : Rho) (i : Nat) (is : List Nat) (xs : List PyData) (xss : List (List PyData)) : upHot r (i :: is) (xs :: xss) = upHot (r.set i (some (.hot xs))) is xss := rfl
@[simp] theorem e_fnM (body : Rho → Fl) (n : Nat) (P : List Nat) (es : List Ent) : fnM body n P es = if hotIdx 0 es = P then (match body (rho0 n es) with
  | .nx r => .rt (.cold .none) (outsOf r P)
  | .rt d r => .rt d (outsOf r P)
  | .ex c w r => .ex c w (outsOf r P)
  | _ => .bad) else .bad := rfl
@[simp] theorem e_hi0 (k : Nat) : hotIdx k [] = [] := rfl
@[simp] theorem e_hiv (k : Nat) (d : PyData) (es : List Ent) : hotIdx k (.val d :: es) = hotIdx (k + 1) es := rfl
@[simp] theorem e_hih (k : Nat) (d : List PyData) (es : List Ent) : hotIdx k (.hot d :: es) = k :: hotIdx (k + 1) es := rfl
@[simp] theorem e_rho0 (n : Nat) (es : List Ent) : rho0 n es = es.map some ++ List.replicate (n - es.length) none := rfl
@[simp] theorem e_outs0 (r : Rho) : outsOf r [] = [] := rfl
@[simp] theorem e_outs1 (r : Rho) (i : Nat) (is : List Nat) : outsOf r (i :: is) = (hotOf r i).getD [] :: outsOf r is := rfl
@[simp] theorem e_chain (f g : PyData → PyData → Option Bool) (ma mb mc : Mi PyData) (r9 : Rho) : mChain f g ma mb mc r9 = (ma.bind fun a => mb.bind fun b => (Mi.opt (f a b)).bind fun k => if k then mc.bind fun c => Mi.opt (fB g b c) else Mi.ret (.bool false)) r9 := rfl
@[simp] theorem e_tchain (f g : PyData → PyData → Option Bool) (ma mb mc : Mi PyData) (r9 : Rho) : mTChain f g ma mb mc r9 = (ma.bind fun a => mb.bind fun b => (Mi.opt (f a b)).bind fun k => if k then mc.bind fun c => Mi.opt (g b c) else Mi.ret false) r9 := rfl
@[simp] theorem e_isi (T : String) (m : Mi PyData) (r9 : Rho) : mIsi T m r9 = (m.bind fun d => Mi.opt ((isTy T d).map PyData.bool)) r9 := rfl
@[simp] theorem e_lenV (i : Nat) (r : Rho) : mLenV i r = match hotOf r i with
  | some xs => .ok (.int (xs.length : Nat)) r
  | none => match r[i]? with
    | some (some (.val d)) => Mi.opt (bLen [d]) r
    | _ => .bad := rfl
@[simp] theorem e_ixV (i : Nat) (mi : Mi PyData) (r : Rho) : mIxV i mi r = match hotOf r i with
  | some _ => (mi.bind fun k r' => match hotOf r' i with
    | some xs => match fIx (.list xs) k with
      | some d => .ok d r'
      | none => .bad
    | none => .bad) r
  | none => match r[i]? with
    | some (some (.val d)) => (mi.bind fun k => Mi.opt (fIx d k)) r
    | _ => .bad := rfl
@[simp] theorem e_raise (c : Str) (m : Mi PyData) (r9 : Rho) : sRaise c m r9 = (sBind m fun d r => .ex c d r) r9 := rfl
@[simp] theorem e_neg (m : Mi PyData) (r9 : Rho) : mNeg m r9 = (m.bind fun d => match d with
  | .int i => Mi.ret (.int (-i))
  | _ => fun _ => .bad) r9 := rfl
@[simp] theorem e_store (i : Nat) (mi ma : Mi PyData) (r9 : Rho) : sStore i mi ma r9 = (sBind ma fun d r => match hotOf r i with
  | none => .bad
  | some _ => sBind mi (fun k r' => match hotOf r' i, k with
    | some xs, .int n => match ixN xs.length n with
      | some j => .nx (r'.set i (some (.hot (xs.set j d))))
      | none => .bad
    | _, _ => .bad) r) r9 := rfl
theorem e_app (i : Nat) (m : Mi PyData) (r : Rho) : sApp i m r = match hotOf r i with
  | some _ => sBind m (fun d r' => match hotOf r' i with
    | some xs => if xs.length < 16777216 then .nx (r'.set i (some (.hot (xs ++ [d])))) else .bad
    | none => .bad) r
  | none => .bad := rfl
@[simp] theorem e_par (i j : Nat) (ms : Mi (List PyData)) (r9 : Rho) : sPar i j ms r9 = (sBind ms fun ds r => match ds with
  | [d, e] => .nx ((r.set i (some (.val d))).set j (some (.val e)))
  | _ => .bad) r9 := rfl
@[simp] theorem e_parH (i j : Nat) (ma : Mi PyData) (mb : Mi (List PyData)) (r9 : Rho) : sParH i j ma mb r9 = (sBind ma fun d => sBind mb fun xs r => .nx ((r.set i (some (.val d))).set j (some (.hot xs)))) r9 := rfl
@[simp] theorem e_tupRg (m : Mi PyData) (r9 : Rho) : mTupRg m r9 = (m.bind fun d => Mi.opt ((fRg d).map PyData.tuple)) r9 := rfl
@[simp] theorem e_lstRg (m : Mi PyData) (r9 : Rho) : mLstRg m r9 = (m.bind fun d => Mi.opt ((fRg d).map PyData.list)) r9 := rfl
@[simp] theorem e_cut (ma : Mi PyData) (ml mh : Mi (Option Int)) (r9 : Rho) : mCut ma ml mh r9 = (ma.bind fun d => ml.bind fun lo => mh.bind fun hi => Mi.opt (fCut lo hi d)) r9 := rfl
@[simp] theorem e_part (m : Mi PyData) (r9 : Rho) : mPart m r9 = (m.bind fun d => match d with
  | .int i => Mi.ret (some i)
  | _ => fun _ => .bad) r9 := rfl
@[simp] theorem e_enum (m : Mi PyData) (r9 : Rho) : mEnum m r9 = (m.bind fun d => Mi.opt ((items d).map (enumD 0))) r9 := rfl
theorem e_comp (mi : Mi (List PyData)) (g : PyData → Rho → Option Rho) (t : Mi Bool) (m : Mi PyData) (vs : List Nat) : mComp mi g t m vs = mi.bind fun ds r1 => match compL g t m vs ds [] r1 with
  | .ok acc r2 => .ok acc (restR r2 r1 vs)
  | _ => .bad := rfl
@[simp] theorem e_rest0 (r r0 : Rho) : restR r r0 [] = r := rfl
@[simp] theorem e_rest1 (r r0 : Rho) (v : Nat) (vs : List Nat) : restR r r0 (v :: vs) = (restR r r0 vs).set v (match r0[v]? with
     | some (some (.val d)) => some (.val d)
     | _ => none) := rfl
@[simp] theorem e_mIsE (o : Option Bool) (r9 : Rho) : mIsE o r9 = (Mi.opt (o.map PyData.bool)) r9 := rfl

@[simp] theorem e_truB (b : Bool) : truth (.bool b) = some b := rfl
@[simp] theorem e_truN : truth .none = some false := rfl
@[simp] theorem e_truT (xs : List PyData) : truth (.tuple xs) = some (!xs.isEmpty) := rfl
@[simp] theorem e_truL (xs : List PyData) : truth (.list xs) = some (!xs.isEmpty) := rfl
@[simp] theorem e_isNt (xs : List PyData) : isNone (.tuple xs) = false := rfl
@[simp] theorem e_isNn : isNone .none = true := rfl
@[simp] theorem e_le (i j : Int) : cLe (.int i) (.int j) = some (decide (i ≤ j)) := rfl
@[simp] theorem e_lt (i j : Int) : cLt (.int i) (.int j) = some (decide (i < j)) := rfl
@[simp] theorem e_gt (i j : Int) : cGt (.int i) (.int j) = some (decide (j < i)) := rfl
@[simp] theorem e_ge (i j : Int) : cGe (.int i) (.int j) = some (decide (j ≤ i)) := rfl
@[simp] theorem e_tyii (i : Int) : isTy "int" (.int i) = some true := rfl
@[simp] theorem e_tyit (i : Int) : isTy "tuple" (.int i) = some false := by
  show kitB "int" "tuple" = some false
  decide +kernel
@[simp] theorem e_tytt (xs : List PyData) : isTy "tuple" (.tuple xs) = some true := rfl
@[simp] theorem e_tynt : isTy "tuple" .none = some false := by decide +kernel
@[simp] theorem e_tyst (x : Str) : isTy "tuple" (.str x) = some false := by
  show kitB "str" "tuple" = some false
  decide +kernel
@[simp] theorem e_lenL (xs : List PyData) : bLen [.list xs] = some (.int (xs.length : Nat)) := rfl
@[simp] theorem e_lenT (xs : List PyData) : bLen [.tuple xs] = some (.int (xs.length : Nat)) := rfl
@[simp] theorem e_itL (xs : List PyData) : items (.list xs) = some xs := rfl
@[simp] theorem e_itT (xs : List PyData) : items (.tuple xs) = some xs := rfl
@[simp] theorem e_for0 (g : PyData → Rho → Option Rho) (b : Rho → Fl) (r : Rho) : forL g b [] r = .nx r := rfl
theorem e_forc (g : PyData → Rho → Option Rho) (b : Rho → Fl) (d : PyData) (ds : List PyData) (r : Rho) : forL g b (d :: ds) r = match g d r with
    | none => .bad
    | some r1 => match b r1 with
      | .nx r2 => forL g b ds r2
      | .ct r2 => forL g b ds r2
      | .bk r2 => .nx r2
      | .rt d r2 => .rt d r2
      | .ex c w r2 => .ex c w r2
      | .bad => .bad := rfl
/-- a loop that runs to its end -/
theorem forL_inv {g : PyData → Rho → Option Rho} {b : Rho → Fl} (I : Nat → Rho → Prop) : ∀ (ds : List PyData) (k : Nat) (r : Rho), I k r →
    (∀ j d r, ds[j]? = some d → I (k + j) r → ∃ r1 r2, g d r = some r1 ∧ b r1 = .nx r2 ∧ I (k + j + 1) r2) → ∃ r', forL g b ds r = .nx r' ∧ I (k + ds.length) r'
  | [], k, r, h, _ => ⟨r, rfl, h⟩
  | d :: ds, k, r, h, st => by
    obtain ⟨r1, r2, e1, e2, h2⟩ := st 0 d r rfl h
    obtain ⟨r', e3, h3⟩ := forL_inv I ds (k + 1) r2 h2 (fun j d' r' hd hi => by
      obtain ⟨a, b', c1, c2, c3⟩ := st (j + 1) d' r' (by simpa using hd) (by rw [show k + (j + 1) = k + 1 + j by omega]; exact hi)
      exact ⟨a, b', c1, c2, by rw [show k + 1 + j + 1 = k + (j + 1) + 1 by omega]; exact c3⟩)
    refine ⟨r', ?_, by rw [List.length_cons, show k + (ds.length + 1) = k + 1 + ds.length by omega]; exact h3⟩
    rw [e_forc, e1]
    simp only
    rw [e2]
    exact e3
theorem compL_inv {g : PyData → Rho → Option Rho} {t : Mi Bool} {m : Mi PyData} {vs : List Nat} (J : Nat → List PyData → Rho → Prop) : ∀ (ds acc : List PyData) (k : Nat) (r : Rho), J k acc r → acc.length + ds.length < 16777216 →
    (∀ j d acc r, ds[j]? = some d → J (k + j) acc r → ∃ r1 r2, g d (wipeR r vs) = some r1 ∧ ((t r1 = .ok false r2 ∧ J (k + j + 1) acc r2) ∨ ∃ y r3, t r1 = .ok true r2 ∧ m r2 = .ok y r3 ∧ J (k + j + 1) (acc ++ [y]) r3)) →
    ∃ acc' r', compL g t m vs ds acc r = .ok acc' r' ∧ J (k + ds.length) acc' r'
  | [], acc, k, r, h, _, _ => ⟨acc, r, rfl, h⟩
  | d :: ds, acc, k, r, h, hl, st => by
    have next : ∀ acc2 r2, acc2.length ≤ acc.length + 1 → J (k + 0 + 1) acc2 r2 → ∃ acc' r', compL g t m vs ds acc2 r2 = .ok acc' r' ∧ J (k + (d :: ds).length) acc' r' := fun acc2 r2 hl2 h2 => by
      rw [List.length_cons] at hl
      obtain ⟨a, b, c1, c2⟩ := compL_inv J ds acc2 (k + 1) r2 h2 (by omega) (fun j d' ac r' hd hi => by
        obtain ⟨x1, x2, y1, y2⟩ := st (j + 1) d' ac r' (by simpa using hd) (by rw [show k + (j + 1) = k + 1 + j by omega]; exact hi)
        rw [show k + (j + 1) + 1 = k + 1 + j + 1 by omega] at y2
        exact ⟨x1, x2, y1, y2⟩)
      exact ⟨a, b, c1, by rw [List.length_cons, show k + (ds.length + 1) = k + 1 + ds.length by omega]; exact c2⟩
    obtain ⟨r1, r2, e1, h2 | ⟨y, r3, e2, e3, h2⟩⟩ := st 0 d acc r rfl h
    · obtain ⟨e2, h2⟩ := h2
      obtain ⟨a, b, c1, c2⟩ := next acc r2 (by omega) h2
      refine ⟨a, b, ?_, c2⟩
      unfold compL
      rw [e1]
      simp only
      rw [e2]
      exact c1
    · obtain ⟨a, b, c1, c2⟩ := next (acc ++ [y]) r3 (by simp) h2
      refine ⟨a, b, ?_, c2⟩
      unfold compL
      rw [e1]
      simp only
      rw [e2]
      simp only
      rw [e3]
      simp only
      rw [if_pos (by rw [List.length_cons] at hl; omega)]
      exact c1
theorem compL_pure {v : Nat} {t : Mi Bool} {m : Mi PyData} (p : PyData → Bool) (f : PyData → PyData) {r0 : Rho} : ∀ (ds acc : List PyData) (r : Rho), r.set v none = r0.set v none → acc.length + ds.length < 16777216 →
    (∀ d ∈ ds, t (r0.set v (some (.val d))) = .ok (p d) (r0.set v (some (.val d))) ∧ (p d = true → m (r0.set v (some (.val d))) = .ok (f d) (r0.set v (some (.val d))))) →
    ∃ r', compL (gNm v) t m [v] ds acc r = .ok (acc ++ (ds.filter p).map f) r' ∧ r'.set v none = r0.set v none
  | [], acc, r, hr, _, _ => ⟨r, by simp [compL], hr⟩
  | d :: ds, acc, r, hr, hl, st => by
    obtain ⟨h1, h2⟩ := st d List.mem_cons_self
    have e0 : (wipeR r [v]).set v (some (.val d)) = r0.set v (some (.val d)) := by
      show (r.set v none).set v (some (.val d)) = _
      rw [hr, List.set_set]
    have e1 : gNm v d (wipeR r [v]) = some (r0.set v (some (.val d))) := by rw [e_gnm, e0]
    have hs : (r0.set v (some (.val d))).set v none = r0.set v none := List.set_set _
    rw [List.length_cons] at hl
    cases hp : p d with
    | false =>
      obtain ⟨r', c1, c2⟩ := compL_pure p f ds acc (r0.set v (some (.val d))) hs (by omega) fun x hx => st x (List.mem_cons_of_mem _ hx)
      refine ⟨r', ?_, c2⟩
      unfold compL
      rw [e1]
      simp only
      rw [h1, hp]
      simp only
      rw [c1, List.filter_cons_of_neg (by rw [hp]; decide)]
    | true =>
      obtain ⟨r', c1, c2⟩ := compL_pure p f ds (acc ++ [f d]) (r0.set v (some (.val d))) hs (by simp; omega) fun x hx => st x (List.mem_cons_of_mem _ hx)
      refine ⟨r', ?_, c2⟩
      unfold compL
      rw [e1]
      simp only
      rw [h1, hp]
      simp only
      rw [h2 hp]
      simp only
      rw [if_pos (by omega), c1, List.filter_cons_of_pos hp]
      simp
/-- a comprehension that changes nothing -/
theorem comp_pure {v : Nat} {t : Mi Bool} {m : Mi PyData} {mi : Mi (List PyData)} {r r0 : Rho} {ds : List PyData} (p : PyData → Bool) (f : PyData → PyData) (hi : mi r = .ok ds r0) (hv : r0[v]? = some none) (hl : ds.length < 16777216)
    (st : ∀ d ∈ ds, t (r0.set v (some (.val d))) = .ok (p d) (r0.set v (some (.val d))) ∧ (p d = true → m (r0.set v (some (.val d))) = .ok (f d) (r0.set v (some (.val d))))) :
    mComp mi (gNm v) t m [v] r = .ok ((ds.filter p).map f) r0 := by
  obtain ⟨r', c1, c2⟩ := compL_pure (v := v) (t := t) (m := m) p f ds [] r0 rfl (by simpa using hl) st
  rw [e_comp, e_bind, hi]
  simp only
  rw [c1]
  simp only [List.nil_append, e_rest1, e_rest0, hv]
  rw [c2]
  congr 1
  apply List.ext_getElem?
  intro j
  by_cases hj : v = j
  · subst hj
    rw [List.getElem?_set_self (List.getElem?_eq_some_iff.mp hv).1, hv]
  · rw [List.getElem?_set_ne hj]
end
theorem sApp_ok {i : Nat} {m : Mi PyData} {r r' : Rho} {d : PyData} {xs ys : List PyData} (h0 : hotOf r i = some ys) (hm : m r = .ok d r') (h1 : hotOf r' i = some xs) (hl : xs.length < 16777216) : sApp i m r = .nx (r'.set i (some (.hot (xs ++ [d])))) := by
  unfold sApp
  rw [h0]
  simp only [e_sBind]
  rw [hm]
  simp only
  rw [h1]
  simp only
  rw [if_pos hl]
end Dn
set_option maxHeartbeats 4000000
namespace K01
open PySem PySem.Spec PyProof.Rows L2 Dn

def topS (i : Nat) : Stmt := PySem.Challenge.pw_waryrig_k01_remedies_of_lots.main.body.getD i (.Pass ⟨0, 0, 0, 0⟩)
def is_BadLot : Str → Option Bool := fun c => if c = "BadLot" then some true else if c = "BadRig" then some false else none
def is_BadRig : Str → Option Bool := fun c => if c = "BadLot" then some false else if c = "BadRig" then some true else none
def is_Refused : Str → Option Bool := fun c => if c = "BadLot" then some true else if c = "BadRig" then some true else none
/-! ## the mirrors -/
abbrev s_is_number : Stmt := topS 5
def b_is_number : Rho → Fl := sRet (mAnd (mIsi "int" (mVar 0)) (mNot (mIsi "bool" (mVar 0))))
def f_is_number : List Ent → FO := fnM b_is_number 1 []
abbrev s_is_from : Stmt := topS 6
def b_is_from : Rho → Fl := sRet (mAnd (mCall f_is_number (aVal (mVar 0) (aNil))) (mChain cLe cLe (mVar 1) (mVar 0) (mVar 2)))
def f_is_from : List Ent → FO := fnM b_is_from 3 []
abbrev s_is_tuple_of : Stmt := topS 7
def b_is_tuple_of : Rho → Fl := sRet (mAnd (mIsi "tuple" (mVar 0)) (mChain cLe cLe (mVar 1) (mLenV 0) (mVar 2)))
def f_is_tuple_of : List Ent → FO := fnM b_is_tuple_of 3 []
abbrev s_is_ascending : Stmt := topS 8
def l_is_ascending_0 : Rho → Fl := sSeq (sIf (tOrM (tNotM (mTru (mCall f_is_number (aVal (mVar 3) (aNil))))) (tNotM (mTChain cLt cLt (mVar 2) (mVar 3) (mVar 1)))) (sRet (Mi.ret (.bool false))) (fun r => .nx r)) (sSet 2 (mVar 3))
def b_is_ascending : Rho → Fl := sSeq (sIf (tNotM (mTru (mIsi "tuple" (mVar 0)))) (sRet (Mi.ret (.bool false))) (fun r => .nx r)) (sSeq (sSet 2 (mNeg (Mi.ret (.int 1)))) (sSeq (sFor (mIter (mVar 0)) (gNm 3) l_is_ascending_0) (sRet (Mi.ret (.bool true)))))
def f_is_ascending : List Ent → FO := fnM b_is_ascending 4 []
abbrev s_wrong_cures : Stmt := topS 22
def l_wrong_cures_0 : Rho → Fl := sIf (tNotM (mTru (mCall f_is_ascending (aVal (mVar 4) (aVal (mVar 2) (aNil)))))) (sRet (mTup (mCons (Mi.ret (.int 2)) (mCons (mVar 3) (mNil))))) (fun r => .nx r)
def b_wrong_cures : Rho → Fl := sSeq (sIf (tNotM (mTru (mCall f_is_tuple_of (aVal (mVar 0) (aVal (mVar 1) (aVal (mVar 1) (aNil))))))) (sRet (mTup (mCons (Mi.ret (.int 2)) (mCons (mNeg (Mi.ret (.int 1))) (mNil))))) (fun r => .nx r)) (sSeq (sFor (mEnum (mVar 0)) (gTp 2 (gCn (gNm 3) (gCn (gNm 4) (gN0)))) l_wrong_cures_0) (sRet (Mi.ret .none)))
def f_wrong_cures : List Ent → FO := fnM b_wrong_cures 5 []
abbrev s_are_signs : Stmt := topS 24
def t_are_signs_0 : Mi Bool := Mi.ret true
def e_are_signs_0 : Mi PyData := mCall f_is_from (aVal (mVar 2) (aVal (Mi.ret (.int 0)) (aVal (Mi.ret (.int 9)) (aNil))))
def b_are_signs : Rho → Fl := sSeq (sIf (tNotM (mTru (mCall f_is_tuple_of (aVal (mVar 0) (aVal (mVar 1) (aVal (mVar 1) (aNil))))))) (sRet (Mi.ret (.bool false))) (fun r => .nx r)) (sRet (mBlt bAll (mCons (mOfF (mComp (mIter (mVar 0)) (gNm 2) t_are_signs_0 e_are_signs_0 [2])) (mNil))))
def f_are_signs : List Ent → FO := fnM b_are_signs 3 []
abbrev s_wrong_signs : Stmt := topS 23
def l_wrong_signs_0 : Rho → Fl := sIf (tNotM (mTru (mCall f_are_signs (aVal (mVar 3) (aVal (mVar 1) (aNil)))))) (sRet (mTup (mCons (Mi.ret (.int 3)) (mCons (mVar 2) (mNil))))) (fun r => .nx r)
def b_wrong_signs : Rho → Fl := sSeq (sIf (tNotM (mTru (mCall f_is_tuple_of (aVal (mVar 0) (aVal (Mi.ret (.int 1)) (aVal (Mi.ret (.int 40)) (aNil))))))) (sRet (mTup (mCons (Mi.ret (.int 3)) (mCons (mNeg (Mi.ret (.int 1))) (mNil))))) (fun r => .nx r)) (sSeq (sFor (mEnum (mVar 0)) (gTp 2 (gCn (gNm 2) (gCn (gNm 3) (gN0)))) l_wrong_signs_0) (sRet (Mi.ret .none)))
def f_wrong_signs : List Ent → FO := fnM b_wrong_signs 4 []
abbrev s_wrong_moves : Stmt := topS 25
def l_wrong_moves_0 : Rho → Fl := sSeq (sIf (tNotM (tAndM (mTru (mCall f_is_tuple_of (aVal (mVar 4) (aVal (Mi.ret (.int 2)) (aVal (Mi.ret (.int 2)) (aNil)))))) (tAndM (mTru (mCall f_is_ascending (aVal (mVar 4) (aVal (mVar 1) (aNil))))) (mTst cLt (mVar 2) (mVar 4))))) (sRet (mTup (mCons (Mi.ret (.int 4)) (mCons (mVar 3) (mNil))))) (fun r => .nx r)) (sSet 2 (mVar 4))
def b_wrong_moves : Rho → Fl := sSeq (sIf (tNotM (mTru (mCall f_is_tuple_of (aVal (mVar 0) (aVal (Mi.ret (.int 0)) (aVal (Mi.ret (.int 200)) (aNil))))))) (sRet (mTup (mCons (Mi.ret (.int 4)) (mCons (mNeg (Mi.ret (.int 1))) (mNil))))) (fun r => .nx r)) (sSeq (sSet 2 (mTup (mCons (mNeg (Mi.ret (.int 1))) (mCons (mNeg (Mi.ret (.int 1))) (mNil))))) (sSeq (sFor (mEnum (mVar 0)) (gTp 2 (gCn (gNm 3) (gCn (gNm 4) (gN0)))) l_wrong_moves_0) (sRet (Mi.ret .none))))
def f_wrong_moves : List Ent → FO := fnM b_wrong_moves 5 []
abbrev s_wrong_place : Stmt := topS 21
def b_wrong_place : Rho → Fl := sSeq (sIf (tNotM (mTru (mCall f_is_tuple_of (aVal (mVar 0) (aVal (Mi.ret (.int 5)) (aVal (Mi.ret (.int 5)) (aNil))))))) (sRet (mTup (mCons (mNeg (Mi.ret (.int 1))) (mNil)))) (fun r => .nx r)) (sSeq (sAsg (gTp 5 (gCn (gNm 1) (gCn (gNm 2) (gCn (gNm 3) (gCn (gNm 4) (gCn (gNm 5) (gN0))))))) (mVar 0)) (sSeq (sIf (tNotM (mTru (mCall f_is_from (aVal (mVar 1) (aVal (Mi.ret (.int 1)) (aVal (Mi.ret (.int 24)) (aNil))))))) (sRet (mTup (mCons (Mi.ret (.int 0)) (mNil)))) (fun r => .nx r)) (sSeq (sIf (tNotM (mTru (mCall f_is_from (aVal (mVar 2) (aVal (Mi.ret (.int 1)) (aVal (Mi.ret (.int 16)) (aNil))))))) (sRet (mTup (mCons (Mi.ret (.int 1)) (mNil)))) (fun r => .nx r)) (sRet (mOr (mCall f_wrong_cures (aVal (mVar 3) (aVal (mVar 1) (aVal (mVar 2) (aNil))))) (mOr (mCall f_wrong_signs (aVal (mVar 4) (aVal (mVar 1) (aNil)))) (mCall f_wrong_moves (aVal (mVar 5) (aVal (mLenV 4) (aNil))))))))))
def f_wrong_place : List Ent → FO := fnM b_wrong_place 6 []
abbrev s_made_rig : Stmt := topS 20
def b_made_rig : Rho → Fl := sSeq (sSet 1 (mCall f_wrong_place (aVal (mVar 0) (aNil)))) (sSeq (sIf (tNotNM (mVar 1)) (sRaise "BadRig" (mVar 1)) (fun r => .nx r)) (sRet (mVar 0)))
def f_made_rig : List Ent → FO := fnM b_made_rig 2 []
abbrev s_check_lot : Stmt := topS 27
def b_check_lot : Rho → Fl := sIf (tNotM (mTru (mCall f_is_ascending (aVal (mVar 1) (aVal (mIxV 0 (Mi.ret (.int 0))) (aNil)))))) (sRaise "BadLot" (mNeg (Mi.ret (.int 1)))) (fun r => .nx r)
def f_check_lot : List Ent → FO := fnM b_check_lot 2 []
abbrev s_check_rig_and_lot : Stmt := topS 28
def b_check_rig_and_lot : Rho → Fl := sSeq (sExpr (mCall f_made_rig (aVal (mVar 0) (aNil)))) (sExpr (mCall f_check_lot (aVal (mVar 0) (aVal (mVar 1) (aNil)))))
def f_check_rig_and_lot : List Ent → FO := fnM b_check_rig_and_lot 2 []
abbrev s_every_fault : Stmt := topS 30
def b_every_fault : Rho → Fl := sRet (mTupRg (mIxV 0 (Mi.ret (.int 0))))
def f_every_fault : List Ent → FO := fnM b_every_fault 1 []
abbrev s_all_faults : Stmt := topS 29
def b_all_faults : Rho → Fl := sSeq (sExpr (mCall f_made_rig (aVal (mVar 0) (aNil)))) (sRet (mCall f_every_fault (aVal (mVar 0) (aNil))))
def f_all_faults : List Ent → FO := fnM b_all_faults 1 []
abbrev s_common_remedies : Stmt := topS 32
def t_common_remedies_0 : Mi Bool := mTst cIn (mVar 4) (mBin fIx (mIxV 0 (Mi.ret (.int 2))) (mVar 3))
def e_common_remedies_0 : Mi PyData := mVar 4
def l_common_remedies_1 : Rho → Fl := sSetHot 2 (mComp (mIter (mVar 2)) (gNm 4) t_common_remedies_0 e_common_remedies_0 [4])
def b_common_remedies : Rho → Fl := sSeq (sSet 2 (mLstRg (mIxV 0 (Mi.ret (.int 1))))) (sSeq (sFor (mIter (mVar 1)) (gNm 3) l_common_remedies_1) (sRet (mBlt bTup (mCons (mVar 2) (mNil)))))
def f_common_remedies : List Ent → FO := fnM b_common_remedies 5 []
abbrev s_remedies_for : Stmt := topS 31
def b_remedies_for : Rho → Fl := sSeq (sExpr (mCall f_check_rig_and_lot (aVal (mVar 0) (aVal (mVar 1) (aNil))))) (sRet (mCall f_common_remedies (aVal (mVar 0) (aVal (mVar 1) (aNil)))))
def f_remedies_for : List Ent → FO := fnM b_remedies_for 2 []
abbrev s_done : Stmt := topS 33
def b_done : Rho → Fl := sSeq (sExpr (mCall f_check_rig_and_lot (aVal (mVar 0) (aVal (mVar 1) (aNil))))) (sRet (mBin (fB cGt) (mBlt bLen (mCons (mCall f_common_remedies (aVal (mVar 0) (aVal (mVar 1) (aNil)))) (mNil))) (Mi.ret (.int 0))))
def f_done : List Ent → FO := fnM b_done 2 []
abbrev s_law_pool : Stmt := topS 35
def b_law_pool : Rho → Fl := sSeq (sSet 2 (Mi.ret (.int 0))) (sSeq (sIf (mTst cLt (mVar 1) (mLenV 0)) (sSet 2 (mIxV 0 (mVar 1))) (sIf (mTst cNe (mVar 0) (mLst (mNil))) (sSet 2 (mIxV 0 (Mi.ret (.int 0)))) (fun r => .nx r))) (sSeq (sSet 3 (mBlt bMax (mCons (mBlt bInt (mCons (mVar 2) (mNil))) (mCons (mBlt bInt (mCons (mBin fSub (mNeg (Mi.ret (.int 1))) (mVar 2)) (mNil))) (mNil))))) (sSeq (sSet 4 (mBin fMod (mBlt bInt (mCons (mBin fMul (mBin fAdd (mBin fAdd (mBin fAdd (mBin fMod (mBlt bInt (mCons (mVar 3) (mNil))) (Mi.ret (.int 2147483629))) (mBin fMul (mBin fMul (Mi.ret (.int 7919)) (mVar 1)) (mVar 1))) (mBin fMul (Mi.ret (.int 31)) (mVar 1))) (Mi.ret (.int 17))) (Mi.ret (.int 48271))) (mNil))) (Mi.ret (.int 2147483647)))) (sRetF (mCons (mBin fMul (mVar 3) (mBlt bInt (mCons (mAnd (mBin (fB cGe) (mVar 3) (mBin fPow (Mi.ret (.int 10)) (Mi.ret (.int 18)))) (mBin (fB cLt) (mVar 1) (mLenV 0))) (mNil)))) (mCons (mVar 4) (mNil)))))))
def f_law_pool : List Ent → FO := fnM b_law_pool 5 []
abbrev s_law_take : Stmt := topS 36
def b_law_take : Rho → Fl := sSeq (sIf (mTst cGt (mIxV 0 (Mi.ret (.int 0))) (Mi.ret (.int 0))) (sSeq (sSet 2 (mBin fMod (mBlt bInt (mCons (mIxV 0 (Mi.ret (.int 0))) (mNil))) (mVar 1))) (sSeq (sStore 0 (Mi.ret (.int 0)) (mBin fDiv (mIxV 0 (Mi.ret (.int 0))) (mVar 1))) (sRet (mVar 2)))) (fun r => .nx r)) (sSeq (sStore 0 (Mi.ret (.int 1)) (mBin fMod (mBlt bInt (mCons (mBin fAdd (mBin fMul (mIxV 0 (Mi.ret (.int 1))) (Mi.ret (.int 39373))) (Mi.ret (.int 7))) (mNil))) (Mi.ret (.int 2147483647)))) (sRet (mBin fMod (mBlt bInt (mCons (mBin fDiv (mBin fMod (mBlt bInt (mCons (mBin fMul (mIxV 0 (Mi.ret (.int 1))) (mIxV 0 (Mi.ret (.int 1)))) (mNil))) (Mi.ret (.int 2147483629))) (Mi.ret (.int 32))) (mNil))) (mVar 1))))
def f_law_take : List Ent → FO := fnM b_law_take 3 [0]
abbrev s_law_one : Stmt := topS 37
def b_law_one : Rho → Fl := sRet (mIxV 1 (mCall f_law_take (aHot 0 (aVal (mLenV 1) (aNil)))))
def f_law_one : List Ent → FO := fnM b_law_one 2 [0]
abbrev s_law_some : Stmt := topS 38
def t_law_some_0 : Mi Bool := mTst cEq (mCall f_law_take (aHot 0 (aVal (Mi.ret (.int 2)) (aNil)))) (Mi.ret (.int 1))
def e_law_some_0 : Mi PyData := mVar 2
def b_law_some : Rho → Fl := sRet (mOfF (mComp (mIter (mVar 1)) (gNm 2) t_law_some_0 e_law_some_0 [2]))
def f_law_some : List Ent → FO := fnM b_law_some 3 [0]
abbrev s_law_wide_rig : Stmt := topS 39
def t_law_wide_rig_0 : Mi Bool := Mi.ret true
def e_law_wide_rig_0 : Mi PyData := mVar 6
def t_law_wide_rig_1 : Mi Bool := Mi.ret true
def e_law_wide_rig_1 : Mi PyData := mVar 6
def l_law_wide_rig_2 : Rho → Fl := sSeq (sSet 5 (mCall f_law_some (aHot 0 (aVal (mOfF (mComp (mRng rng1 (mCons (mVar 2) (mNil))) (gNm 6) t_law_wide_rig_0 e_law_wide_rig_0 [6])) (aNil))))) (sApp 3 (mBlt bTup (mCons (mCall f_law_one (aHot 0 (aVal (mLst (mCons (mVar 5) (mCons (mVar 5) (mCons (mLst (mNil)) (mCons (mOfF (mComp (mRng rng1 (mCons (mVar 2) (mNil))) (gNm 6) t_law_wide_rig_1 e_law_wide_rig_1 [6])) (mCons (mLst (mCons (mCall f_law_take (aHot 0 (aVal (mVar 2) (aNil)))) (mNil))) (mNil))))))) (aNil)))) (mNil))))
def b_law_wide_rig : Rho → Fl := sSeq (sSet 1 (mCall f_law_one (aHot 0 (aVal (mLst (mCons (mBin fAdd (Mi.ret (.int 2)) (mCall f_law_take (aHot 0 (aVal (Mi.ret (.int 7)) (aNil))))) (mCons (mBin fAdd (Mi.ret (.int 1)) (mCall f_law_take (aHot 0 (aVal (Mi.ret (.int 8)) (aNil))))) (mCons (Mi.ret (.int 24)) (mNil))))) (aNil))))) (sSeq (sParH 2 3 (mCall f_law_one (aHot 0 (aVal (mLst (mCons (Mi.ret (.int 2)) (mCons (Mi.ret (.int 3)) (mCons (Mi.ret (.int 16)) (mCons (mBin fAdd (Mi.ret (.int 1)) (mCall f_law_take (aHot 0 (aVal (Mi.ret (.int 16)) (aNil))))) (mNil)))))) (aNil)))) (mNil)) (sSeq (sFor (mRng rng1 (mCons (mVar 1) (mNil))) (gNm 4) l_law_wide_rig_2) (sRet (mTup (mCons (mVar 1) (mCons (mVar 2) (mCons (mBlt bTup (mCons (mVar 3) (mNil))) (mCons (mTup (mCons (mBin fMul (mTup (mCons (Mi.ret (.int 0)) (mNil))) (mVar 1)) (mNil))) (mCons (mTup (mNil)) (mNil))))))))))
def f_law_wide_rig : List Ent → FO := fnM b_law_wide_rig 7 [0]
abbrev s_law_due_remedies : Stmt := topS 40
def t_law_due_remedies_0 : Mi Bool := mTst cNotIn (mVar 3) (mBin fIx (mIxV 0 (Mi.ret (.int 2))) (mVar 4))
def e_law_due_remedies_0 : Mi PyData := mVar 4
def l_law_due_remedies_1 : Rho → Fl := sIf (mTst cEq (mOfF (mComp (mIter (mVar 1)) (gNm 4) t_law_due_remedies_0 e_law_due_remedies_0 [4])) (mLst (mNil))) (sApp 2 (mVar 3)) (fun r => .nx r)
def b_law_due_remedies : Rho → Fl := sSeq (sSetHot 2 (mNil)) (sSeq (sFor (mRng rng1 (mCons (mIxV 0 (Mi.ret (.int 1))) (mNil))) (gNm 3) l_law_due_remedies_1) (sRet (mBlt bTup (mCons (mVar 2) (mNil)))))
def f_law_due_remedies : List Ent → FO := fnM b_law_due_remedies 5 []
abbrev s_law_lot_right : Stmt := topS 41
def t_law_lot_right_0 : Mi Bool := mTst cNotIn (mVar 6) (mVar 5)
def e_law_lot_right_0 : Mi PyData := mVar 6
def b_law_lot_right : Rho → Fl := sSeq (sPar 3 4 (mCons (mCall f_law_due_remedies (aVal (mVar 1) (aVal (mVar 2) (aNil)))) (mCons (mBlt bTup (mCons (mCall f_law_some (aHot 0 (aVal (mVar 2) (aNil)))) (mNil))) (mNil)))) (sSeq (sIf (tOrM (mTst cNe (mBlt bRepr (mCons (mCall f_remedies_for (aVal (mVar 1) (aVal (mVar 2) (aNil)))) (mNil))) (mBlt bRepr (mCons (mVar 3) (mNil)))) (mTst cNe (mBlt bRepr (mCons (mCall f_done (aVal (mVar 1) (aVal (mVar 2) (aNil)))) (mNil))) (mBlt bRepr (mCons (mBin (fB cNe) (mVar 3) (mTup (mNil))) (mNil))))) (sRet (Mi.ret (.bool false))) (fun r => .nx r)) (sSeq (sSet 5 (mCall f_remedies_for (aVal (mVar 1) (aVal (mVar 4) (aNil))))) (sRet (mAnd (mBin (fB cEq) (mOfF (mComp (mIter (mVar 3)) (gNm 6) t_law_lot_right_0 e_law_lot_right_0 [6])) (mLst (mNil))) (mBin (fB cEq) (mBlt bRepr (mCons (mCall f_done (aVal (mVar 1) (aVal (mVar 4) (aNil)))) (mNil))) (mBlt bRepr (mCons (mBin (fB cNe) (mVar 5) (mTup (mNil))) (mNil))))))))
def f_law_lot_right : List Ent → FO := fnM b_law_lot_right 7 [0]
abbrev s_law_both_right : Stmt := topS 42
def t_law_both_right_0 : Mi Bool := tOrM (mTst cIn (mVar 4) (mVar 1)) (mTst cIn (mVar 4) (mVar 2))
def e_law_both_right_0 : Mi PyData := mVar 4
def t_law_both_right_1 : Mi Bool := mTst cIn (mVar 7) (mVar 6)
def e_law_both_right_1 : Mi PyData := mVar 7
def b_law_both_right : Rho → Fl := sSeq (sSet 3 (mBlt bTup (mCons (mOfF (mComp (mRng rng1 (mCons (mIxV 0 (Mi.ret (.int 0))) (mNil))) (gNm 4) t_law_both_right_0 e_law_both_right_0 [4])) (mNil)))) (sSeq (sAsg (gTp 2 (gCn (gNm 5) (gCn (gNm 6) (gN0)))) (mTup (mCons (mCall f_remedies_for (aVal (mVar 0) (aVal (mVar 1) (aNil)))) (mCons (mCall f_remedies_for (aVal (mVar 0) (aVal (mVar 2) (aNil)))) (mNil))))) (sRet (mBin (fB cEq) (mCall f_remedies_for (aVal (mVar 0) (aVal (mVar 3) (aNil)))) (mBlt bTup (mCons (mOfF (mComp (mIter (mVar 5)) (gNm 7) t_law_both_right_1 e_law_both_right_1 [7])) (mNil))))))
def f_law_both_right : List Ent → FO := fnM b_law_both_right 8 []
abbrev s_law_is_refused : Stmt := topS 43
def b_law_is_refused : Out PyData → Rho → Fl := fun th => sSeq (sTry 2 is_Refused (sExpr (mThk th)) (fun c w => sSeq (sIf (mTru (mVar 1)) (sRet (mAnd (mIsE (is_BadLot c)) (mAnd (mNot (mIsE (is_BadRig c))) (mBin (fB cEq) (mBlt bRepr (mCons (Mi.ret w) (mNil))) (Mi.ret (.str "-1")))))) (fun r => .nx r)) (sRet (mAnd (mIsE (is_BadRig c)) (mAnd (mNot (mIsE (is_BadLot c))) (mBin (fB cEq) (mBlt bRepr (mCons (Mi.ret w) (mNil))) (Mi.ret (.str "(-1,)")))))))) (sRet (Mi.ret (.bool false)))
def f_law_is_refused : Out PyData → List PyData → FT := fnT b_law_is_refused 3
abbrev s_law_odd_right : Stmt := topS 44
def b_law_odd_right : Rho → Fl := sSeq (sSet 2 (mIxV 1 (Mi.ret (.int 0)))) (sSeq (sSet 3 (mCall f_law_one (aHot 0 (aVal (mLst (mCons (Mi.ret .none) (mCons (mTup (mCons (mVar 2) (mNil))) (mCons (mTup (mCons (mBin fSub (Mi.ret (.int 0)) (Mi.ret (.int 1))) (mNil))) (mCons (mTup (mCons (Mi.ret (.int 0)) (mCons (Mi.ret (.int 0)) (mNil)))) (mCons (mTup (mCons (Mi.ret (.int 0)) (mCons (mVar 2) (mNil)))) (mCons (Mi.ret (.str "0")) (mCons (Mi.ret (.int 0)) (mCons (mTup (mCons (Mi.ret (.str "0")) (mNil))) (mCons (mTup (mCons (Mi.ret .none) (mNil))) (mCons (mTup (mCons (Mi.ret (.int 0)) (mCons (mBin fSub (Mi.ret (.int 0)) (Mi.ret (.int 1))) (mNil)))) (mCons (mTup (mCons (mTup (mCons (Mi.ret (.int 0)) (mNil))) (mNil))) (mNil))))))))))))) (aNil))))) (sSeq (sIf (tNotM (mTru (mLam f_law_is_refused (mCall f_remedies_for (aVal (mVar 1) (aVal (mVar 3) (aNil)))) [.bool true]))) (sRet (Mi.ret (.bool false))) (fun r => .nx r)) (sSeq (sIf (tNotM (mTru (mLam f_law_is_refused (mCall f_done (aVal (mVar 1) (aVal (mVar 3) (aNil)))) [.bool true]))) (sRet (Mi.ret (.bool false))) (fun r => .nx r)) (sRet (mLam f_law_is_refused (mCall f_remedies_for (aVal (mCut (mVar 1) (Mi.ret none) (mPart (Mi.ret (.int 4)))) (aVal (mVar 3) (aNil)))) [.bool false])))))
def f_law_odd_right : List Ent → FO := fnM b_law_odd_right 4 [0]
abbrev s_law : Stmt := topS 45
def t_law_0 : Mi Bool := Mi.ret true
def e_law_0 : Mi PyData := mVar 4
def t_law_1 : Mi Bool := Mi.ret true
def e_law_1 : Mi PyData := mVar 5
def t_law_2 : Mi Bool := Mi.ret true
def e_law_2 : Mi PyData := mTup (mCons (mVar 4) (mNil))
def t_law_3 : Mi Bool := Mi.ret true
def e_law_3 : Mi PyData := mBlt bTup (mCons (mCall f_law_some (aHot 1 (aVal (mVar 3) (aNil)))) (mNil))
def t_law_4 : Mi Bool := tNotM (mTru (mCall f_law_lot_right (aHot 1 (aVal (mVar 2) (aVal (mVar 8) (aNil))))))
def e_law_4 : Mi PyData := mVar 8
def b_law : Rho → Fl := sSeq (sSetHot 1 (mCallF f_law_pool (aVal (mVar 0) (aVal (Mi.ret (.int 0)) (aNil))))) (sSeq (sSet 2 (mCall f_law_wide_rig (aHot 1 (aNil)))) (sSeq (sSet 3 (mBlt bTup (mCons (mOfF (mComp (mRng rng1 (mCons (mIxV 2 (Mi.ret (.int 0))) (mNil))) (gNm 4) t_law_0 e_law_0 [4])) (mNil)))) (sSeq (sIf (tOrM (mTst cNe (mBlt bRepr (mCons (mCall f_all_faults (aVal (mVar 2) (aNil))) (mNil))) (mBlt bRepr (mCons (mVar 3) (mNil)))) (mTst cNe (mCall f_remedies_for (aVal (mVar 2) (aVal (mTup (mNil)) (aNil)))) (mBlt bTup (mCons (mOfF (mComp (mRng rng1 (mCons (mIxV 2 (Mi.ret (.int 1))) (mNil))) (gNm 5) t_law_1 e_law_1 [5])) (mNil))))) (sRet (Mi.ret (.bool false))) (fun r => .nx r)) (sSeq (sSet 6 (mBin fAdd (mBin fAdd (mLst (mCons (mTup (mNil)) (mCons (mVar 3) (mNil)))) (mOfF (mComp (mIter (mCut (mVar 3) (Mi.ret none) (mPart (Mi.ret (.int 3))))) (gNm 4) t_law_2 e_law_2 [4]))) (mOfF (mComp (mRng rng1 (mCons (Mi.ret (.int 6)) (mNil))) (gNm 7) t_law_3 e_law_3 [7])))) (sSeq (sIf (mTst cNe (mOfF (mComp (mIter (mVar 6)) (gNm 8) t_law_4 e_law_4 [8])) (mLst (mNil))) (sRet (Mi.ret (.bool false))) (fun r => .nx r)) (sSeq (sIf (tOrM (tNotM (mTru (mCall f_law_both_right (aVal (mVar 2) (aVal (mIxV 6 (mBin fSub (mLenV 6) (Mi.ret (.int 1)))) (aVal (mIxV 6 (mBin fSub (mLenV 6) (Mi.ret (.int 2)))) (aNil))))))) (tNotM (mTru (mCall f_law_odd_right (aHot 1 (aVal (mVar 2) (aNil))))))) (sRet (Mi.ret (.bool false))) (fun r => .nx r)) (sRet (mBin (fB cEq) (mBlt bRepr (mCons (mCall f_done (aVal (mVar 2) (aVal (mVar 3) (aNil)))) (mNil))) (mBlt bRepr (mCons (mBin (fB cNe) (mCall f_law_due_remedies (aVal (mVar 2) (aVal (mVar 3) (aNil)))) (mTup (mNil))) (mNil)))))))))))
def f_law : List Ent → FO := fnM b_law 9 []
/-! ## the derivations -/
structure Gs (K : PySem.W.Frag) (mg : Str → Option Value) (C_BadLot : Addr) (C_BadRig : Addr) (C_Refused : Addr) : Prop where
  n_all : mg "all" = none
  n_bool : mg "bool" = none
  n_enumerate : mg "enumerate" = none
  n_int : mg "int" = none
  n_isinstance : mg "isinstance" = none
  n_len : mg "len" = none
  n_list : mg "list" = none
  n_max : mg "max" = none
  n_range : mg "range" = none
  n_repr : mg "repr" = none
  n_tuple : mg "tuple" = none
  c_CURES : ∃ t, mg "CURES" = some (.int 2 t)
  c_FAULTS : ∃ t, mg "FAULTS" = some (.int 0 t)
  c_GREATEST_SIGN : ∃ t, mg "GREATEST_SIGN" = some (.int 9 t)
  c_MOST_FAULTS : ∃ t, mg "MOST_FAULTS" = some (.int 24 t)
  c_MOST_MOVES : ∃ t, mg "MOST_MOVES" = some (.int 200 t)
  c_MOST_REMEDIES : ∃ t, mg "MOST_REMEDIES" = some (.int 16 t)
  c_MOST_SETTINGS : ∃ t, mg "MOST_SETTINGS" = some (.int 40 t)
  c_MOVES : ∃ t, mg "MOVES" = some (.int 4 t)
  c_REMEDIES : ∃ t, mg "REMEDIES" = some (.int 1 t)
  c_SIGNS : ∃ t, mg "SIGNS" = some (.int 3 t)
  x_BadLot : ∃ fI, PySem.WhX.WhTxt K mg "BadLot" C_BadLot fI
  x_BadRig : ∃ fI, PySem.WhX.WhTxt K mg "BadRig" C_BadRig fI
  x_Refused : ∃ fI, PySem.WhX.WhTxt K mg "Refused" C_Refused fI
  err : ∀ c A, (is_Refused c).isSome = true → mg c = some (.ref A) → (∃ fI, PySem.WhX.WhTxt K mg c A fI) ∧ PySem.W.ErrC K A
  k_BadLot : ∀ c A, mg c = some (.ref A) → ∀ b, is_BadLot c = some b → PySem.W.kitOne K (.ref A) (.ref C_BadLot) = some b
  m_BadLot : ∀ c A b, is_BadLot c = some b → mg c = some (.ref A) → PySem.W.exmOne K (.ref A) (.ref C_BadLot) = some b
  k_BadRig : ∀ c A, mg c = some (.ref A) → ∀ b, is_BadRig c = some b → PySem.W.kitOne K (.ref A) (.ref C_BadRig) = some b
  m_BadRig : ∀ c A b, is_BadRig c = some b → mg c = some (.ref A) → PySem.W.exmOne K (.ref A) (.ref C_BadRig) = some b
  k_Refused : ∀ c A, mg c = some (.ref A) → ∀ b, is_Refused c = some b → PySem.W.kitOne K (.ref A) (.ref C_Refused) = some b
  m_Refused : ∀ c A b, is_Refused c = some b → mg c = some (.ref A) → PySem.W.exmOne K (.ref A) (.ref C_Refused) = some b
section
variable {Pg : Program} {w : World} {K : PySem.W.Frag} {mg : Str → Option Value} {base : Heap} {T : List (Addr × Str)} {C_BadLot : Addr} {C_BadRig : Addr} {C_Refused : Addr}
theorem sc_is_number : FnScope ["thing"] ["thing"] (defScope s_is_number) := ⟨rfl, rfl, rfl, by decide +kernel, rfl, by decide +kernel, by decide +kernel⟩
theorem ok_is_number (G : Gs K mg C_BadLot C_BadRig C_Refused) {f : Addr} {cdv : Value} (D : At K mg "is_number" s_is_number ["thing"] f cdv)  : Good Pg w K mg base T 1 "is_number" ["thing"] f_is_number :=
  goodOf (dfnC (N := ["thing"]) (P := []) (body := b_is_number) D sc_is_number (by decide) fun A outer s H E hG hr =>
  (dsOne (dsRet (deAnd (deIsi (deVar (pv 0) (nin rfl)) rfl G.n_isinstance rfl G.n_int (by decide +kernel)) (deOne (deNot (deIsi (deVar (pv 0) (nin rfl)) rfl G.n_isinstance rfl G.n_bool (by decide +kernel))))))))
theorem sc_is_from : FnScope ["thing", "least", "most"] ["thing", "least", "most"] (defScope s_is_from) := ⟨rfl, rfl, rfl, by decide +kernel, rfl, by decide +kernel, by decide +kernel⟩
theorem ok_is_from (G : Gs K mg C_BadLot C_BadRig C_Refused) {f : Addr} {cdv : Value} (D : At K mg "is_from" s_is_from ["thing", "least", "most"] f cdv) (D_is_number : Good Pg w K mg base T 1 "is_number" ["thing"] f_is_number) : Good Pg w K mg base T 2 "is_from" ["thing", "least", "most"] f_is_from :=
  goodOf (dfnC (N := ["thing", "least", "most"]) (P := []) (body := b_is_from) D sc_is_from (by decide) fun A outer s H E hG hr =>
  (dsOne (dsRet (deAnd (deCall D_is_number.1 hG (hr.mono (by decide)) (takes_of rfl rfl rfl rfl) (agVal (deVar (pv 0) (nin rfl)) agNil) rfl) (deOne (deChain oLe oLe (deVar (pv 1) (nin rfl)) (deVar (pv 0) (nin rfl)) (deVar (pv 2) (nin rfl)) (fun _ _ _ h1 h2 h3 => pe_chain oLe oLe h1 h2 h3)))))))
theorem sc_is_tuple_of : FnScope ["thing", "least", "most"] ["thing", "least", "most"] (defScope s_is_tuple_of) := ⟨rfl, rfl, rfl, by decide +kernel, rfl, by decide +kernel, by decide +kernel⟩
theorem ok_is_tuple_of (G : Gs K mg C_BadLot C_BadRig C_Refused) {f : Addr} {cdv : Value} (D : At K mg "is_tuple_of" s_is_tuple_of ["thing", "least", "most"] f cdv)  : Good Pg w K mg base T 1 "is_tuple_of" ["thing", "least", "most"] f_is_tuple_of :=
  goodOf (dfnC (N := ["thing", "least", "most"]) (P := []) (body := b_is_tuple_of) D sc_is_tuple_of (by decide) fun A outer s H E hG hr =>
  (dsOne (dsRet (deAnd (deIsi (deVar (pv 0) (nin rfl)) rfl G.n_isinstance rfl G.n_tuple (by decide +kernel)) (deOne (deChain oLe oLe (deVar (pv 1) (nin rfl)) (deLenV (pv 0) rfl G.n_len) (deVar (pv 2) (nin rfl)) (fun _ _ _ h1 h2 h3 => pe_chain oLe oLe h1 h2 h3)))))))
theorem sc_is_ascending : FnScope ["thing", "many", "ahead", "part"] ["thing", "many"] (defScope s_is_ascending) := ⟨rfl, rfl, rfl, by decide +kernel, rfl, by decide +kernel, by decide +kernel⟩
theorem ok_is_ascending (G : Gs K mg C_BadLot C_BadRig C_Refused) {f : Addr} {cdv : Value} (D : At K mg "is_ascending" s_is_ascending ["thing", "many"] f cdv) (D_is_number : Good Pg w K mg base T 1 "is_number" ["thing"] f_is_number) : Good Pg w K mg base T 2 "is_ascending" ["thing", "many"] f_is_ascending :=
  goodOf (dfnC (N := ["thing", "many", "ahead", "part"]) (P := []) (body := b_is_ascending) D sc_is_ascending (by decide) fun A outer s H E hG hr =>
  (dsCons (dsIf (dtNot (dtOf (deIsi (deVar (pv 0) (nin rfl)) rfl G.n_isinstance rfl G.n_tuple (by decide +kernel)))) (dsOne (dsRet deBl)) dsNil)
  (dsCons (dsSet (i := 2) (deNeg deInt) (nin rfl) (fun te h => ps_set (i := 2) sc_is_ascending.nd rfl (by first | exact .inl rfl | exact .inr rfl) h))
  (dsCons (dsFor (passes_of rfl) rfl (diSeq (deVar (pv 0) (nin rfl))) (dgName (pg_name (i := 3) sc_is_ascending.nd rfl (by first | exact .inl rfl | exact .inr rfl)) (nin rfl)) (dsCons (dsIf (dtW (dwOr (dtNot (dtOf (deCall D_is_number.1 hG (hr.mono (by decide)) (takes_of rfl rfl rfl rfl) (agVal (deVar (pv 3) (nin rfl)) agNil) rfl))) (dwOr1 (dtNot (dtChain (oLt (Room.u64 hr)) (oLt (Room.u64 hr)) (deVar (pv 2) (nin rfl)) (deVar (pv 3) (nin rfl)) (deVar (pv 1) (nin rfl))))))) (dsOne (dsRet deBl)) dsNil)
  (dsOne (dsSet (i := 2) (deVar (pv 3) (nin rfl)) (nin rfl) (fun te h => ps_set (i := 2) sc_is_ascending.nd rfl (by first | exact .inl rfl | exact .inr rfl) h)))))
  (dsOne (dsRet deBl))))))
theorem sc_wrong_cures : FnScope ["cures", "n", "q", "x", "entry"] ["cures", "n", "q"] (defScope s_wrong_cures) := ⟨rfl, rfl, rfl, by decide +kernel, rfl, by decide +kernel, by decide +kernel⟩
theorem ok_wrong_cures (G : Gs K mg C_BadLot C_BadRig C_Refused) {f : Addr} {cdv : Value} (D : At K mg "wrong_cures" s_wrong_cures ["cures", "n", "q"] f cdv) (D_is_tuple_of : Good Pg w K mg base T 1 "is_tuple_of" ["thing", "least", "most"] f_is_tuple_of) (D_is_ascending : Good Pg w K mg base T 2 "is_ascending" ["thing", "many"] f_is_ascending) : Good Pg w K mg base T 3 "wrong_cures" ["cures", "n", "q"] f_wrong_cures :=
  goodOf (dfnC (N := ["cures", "n", "q", "x", "entry"]) (P := []) (body := b_wrong_cures) D sc_wrong_cures (by decide) fun A outer s H E hG hr =>
  (dsCons (dsIf (dtNot (dtOf (deCall D_is_tuple_of.1 hG (hr.mono (by decide)) (takes_of rfl rfl rfl rfl) (agVal (deVar (pv 0) (nin rfl)) (agVal (deVar (pv 1) (nin rfl)) (agVal (deVar (pv 1) (nin rfl)) agNil))) rfl))) (dsOne (dsRet (deTup (daCons (deGlob (v := .int 2) (d := .int 2) rfl G.c_CURES.choose_spec ⟨_, rfl⟩ (fun _ => .int _)) (daCons (deNeg deInt) daNil))))) dsNil)
  (dsCons (dsFor (passes_of rfl) rfl (diEnum rfl G.n_enumerate (deVar (pv 0) (nin rfl))) (dgTup rfl (dgCons (dgName (pg_name (i := 3) sc_wrong_cures.nd rfl (by first | exact .inl rfl | exact .inr rfl)) (nin rfl)) (dgCons (dgName (pg_name (i := 4) sc_wrong_cures.nd rfl (by first | exact .inl rfl | exact .inr rfl)) (nin rfl)) dgNil))) (dsOne (dsIf (dtNot (dtOf (deCall D_is_ascending.1 hG (hr.mono (by decide)) (takes_of rfl rfl rfl rfl) (agVal (deVar (pv 4) (nin rfl)) (agVal (deVar (pv 2) (nin rfl)) agNil)) rfl))) (dsOne (dsRet (deTup (daCons (deGlob (v := .int 2) (d := .int 2) rfl G.c_CURES.choose_spec ⟨_, rfl⟩ (fun _ => .int _)) (daCons (deVar (pv 3) (nin rfl)) daNil))))) dsNil)))
  (dsOne (dsRet deNon)))))
theorem sc_are_signs : FnScope ["entry", "n", "sign"] ["entry", "n"] (defScope s_are_signs) := ⟨rfl, rfl, rfl, by decide +kernel, rfl, by decide +kernel, by decide +kernel⟩
theorem ok_are_signs (G : Gs K mg C_BadLot C_BadRig C_Refused) {f : Addr} {cdv : Value} (D : At K mg "are_signs" s_are_signs ["entry", "n"] f cdv) (D_is_tuple_of : Good Pg w K mg base T 1 "is_tuple_of" ["thing", "least", "most"] f_is_tuple_of) (D_is_from : Good Pg w K mg base T 2 "is_from" ["thing", "least", "most"] f_is_from) : Good Pg w K mg base T 3 "are_signs" ["entry", "n"] f_are_signs :=
  goodOf (dfnC (N := ["entry", "n", "sign"]) (P := []) (body := b_are_signs) D sc_are_signs (by decide) fun A outer s H E hG hr =>
  (dsCons (dsIf (dtNot (dtOf (deCall D_is_tuple_of.1 hG (hr.mono (by decide)) (takes_of rfl rfl rfl rfl) (agVal (deVar (pv 0) (nin rfl)) (agVal (deVar (pv 1) (nin rfl)) (agVal (deVar (pv 1) (nin rfl)) agNil))) rfl))) (dsOne (dsRet deBl)) dsNil)
  (dsOne (dsRet (deB (kAll rfl) (daCons (deOfF (dfComp rfl sc_are_signs.nd (diSeq (deVar (pv 0) (nin rfl))) (own := [("sign", 2)]) (by show BlkOk ["entry", "n", "sign"] (defScope s_are_signs) _ _; constructor <;> decide +kernel) (nins rfl) (by decide) (fun _ _ _ _ _ => (dgName (pg_name (i := 2) sc_are_signs.nd rfl (by first | exact .inl rfl | exact .inr rfl)) (nin rfl))) (fun _ _ _ _ _ => dtsNil) (fun _ _ _ _ _ => (deCall D_is_from.1 hG (hr.mono (by decide)) takes_none5 (agVal (deVar (pv 2) (nin rfl)) (agVal deInt (agVal (deGlob (v := .int 9) (d := .int 9) rfl G.c_GREATEST_SIGN.choose_spec ⟨_, rfl⟩ (fun _ => .int _)) agNil))) rfl)))) daNil) rfl G.n_all (by decide +kernel))))))
theorem sc_wrong_signs : FnScope ["signs", "n", "g", "entry"] ["signs", "n"] (defScope s_wrong_signs) := ⟨rfl, rfl, rfl, by decide +kernel, rfl, by decide +kernel, by decide +kernel⟩
theorem ok_wrong_signs (G : Gs K mg C_BadLot C_BadRig C_Refused) {f : Addr} {cdv : Value} (D : At K mg "wrong_signs" s_wrong_signs ["signs", "n"] f cdv) (D_is_tuple_of : Good Pg w K mg base T 1 "is_tuple_of" ["thing", "least", "most"] f_is_tuple_of) (D_are_signs : Good Pg w K mg base T 3 "are_signs" ["entry", "n"] f_are_signs) : Good Pg w K mg base T 4 "wrong_signs" ["signs", "n"] f_wrong_signs :=
  goodOf (dfnC (N := ["signs", "n", "g", "entry"]) (P := []) (body := b_wrong_signs) D sc_wrong_signs (by decide) fun A outer s H E hG hr =>
  (dsCons (dsIf (dtNot (dtOf (deCall D_is_tuple_of.1 hG (hr.mono (by decide)) (takes_of rfl rfl rfl rfl) (agVal (deVar (pv 0) (nin rfl)) (agVal deInt (agVal (deGlob (v := .int 40) (d := .int 40) rfl G.c_MOST_SETTINGS.choose_spec ⟨_, rfl⟩ (fun _ => .int _)) agNil))) rfl))) (dsOne (dsRet (deTup (daCons (deGlob (v := .int 3) (d := .int 3) rfl G.c_SIGNS.choose_spec ⟨_, rfl⟩ (fun _ => .int _)) (daCons (deNeg deInt) daNil))))) dsNil)
  (dsCons (dsFor (passes_of rfl) rfl (diEnum rfl G.n_enumerate (deVar (pv 0) (nin rfl))) (dgTup rfl (dgCons (dgName (pg_name (i := 2) sc_wrong_signs.nd rfl (by first | exact .inl rfl | exact .inr rfl)) (nin rfl)) (dgCons (dgName (pg_name (i := 3) sc_wrong_signs.nd rfl (by first | exact .inl rfl | exact .inr rfl)) (nin rfl)) dgNil))) (dsOne (dsIf (dtNot (dtOf (deCall D_are_signs.1 hG (hr.mono (by decide)) (takes_of rfl rfl rfl rfl) (agVal (deVar (pv 3) (nin rfl)) (agVal (deVar (pv 1) (nin rfl)) agNil)) rfl))) (dsOne (dsRet (deTup (daCons (deGlob (v := .int 3) (d := .int 3) rfl G.c_SIGNS.choose_spec ⟨_, rfl⟩ (fun _ => .int _)) (daCons (deVar (pv 2) (nin rfl)) daNil))))) dsNil)))
  (dsOne (dsRet deNon)))))
theorem sc_wrong_moves : FnScope ["moves", "settings", "ahead", "k", "pair"] ["moves", "settings"] (defScope s_wrong_moves) := ⟨rfl, rfl, rfl, by decide +kernel, rfl, by decide +kernel, by decide +kernel⟩
theorem ok_wrong_moves (G : Gs K mg C_BadLot C_BadRig C_Refused) {f : Addr} {cdv : Value} (D : At K mg "wrong_moves" s_wrong_moves ["moves", "settings"] f cdv) (D_is_tuple_of : Good Pg w K mg base T 1 "is_tuple_of" ["thing", "least", "most"] f_is_tuple_of) (D_is_ascending : Good Pg w K mg base T 2 "is_ascending" ["thing", "many"] f_is_ascending) : Good Pg w K mg base T 3 "wrong_moves" ["moves", "settings"] f_wrong_moves :=
  goodOf (dfnC (N := ["moves", "settings", "ahead", "k", "pair"]) (P := []) (body := b_wrong_moves) D sc_wrong_moves (by decide) fun A outer s H E hG hr =>
  (dsCons (dsIf (dtNot (dtOf (deCall D_is_tuple_of.1 hG (hr.mono (by decide)) (takes_of rfl rfl rfl rfl) (agVal (deVar (pv 0) (nin rfl)) (agVal deInt (agVal (deGlob (v := .int 200) (d := .int 200) rfl G.c_MOST_MOVES.choose_spec ⟨_, rfl⟩ (fun _ => .int _)) agNil))) rfl))) (dsOne (dsRet (deTup (daCons (deGlob (v := .int 4) (d := .int 4) rfl G.c_MOVES.choose_spec ⟨_, rfl⟩ (fun _ => .int _)) (daCons (deNeg deInt) daNil))))) dsNil)
  (dsCons (dsSet (i := 2) (deTup (daCons (deNeg deInt) (daCons (deNeg deInt) daNil))) (nin rfl) (fun te h => ps_set (i := 2) sc_wrong_moves.nd rfl (by first | exact .inl rfl | exact .inr rfl) h))
  (dsCons (dsFor (passes_of rfl) rfl (diEnum rfl G.n_enumerate (deVar (pv 0) (nin rfl))) (dgTup rfl (dgCons (dgName (pg_name (i := 3) sc_wrong_moves.nd rfl (by first | exact .inl rfl | exact .inr rfl)) (nin rfl)) (dgCons (dgName (pg_name (i := 4) sc_wrong_moves.nd rfl (by first | exact .inl rfl | exact .inr rfl)) (nin rfl)) dgNil))) (dsCons (dsIf (dtNot (dtW (dwAnd (dtOf (deCall D_is_tuple_of.1 hG (hr.mono (by decide)) (takes_of rfl rfl rfl rfl) (agVal (deVar (pv 4) (nin rfl)) (agVal deInt (agVal deInt agNil))) rfl)) (dwAnd (dtOf (deCall D_is_ascending.1 hG (hr.mono (by decide)) (takes_of rfl rfl rfl rfl) (agVal (deVar (pv 4) (nin rfl)) (agVal (deVar (pv 1) (nin rfl)) agNil)) rfl)) (dwAnd1 (dtCmp (oLt (Room.u64 hr)) (deVar (pv 2) (nin rfl)) (deVar (pv 4) (nin rfl)) (by first | rfl | exact nomark _))))))) (dsOne (dsRet (deTup (daCons (deGlob (v := .int 4) (d := .int 4) rfl G.c_MOVES.choose_spec ⟨_, rfl⟩ (fun _ => .int _)) (daCons (deVar (pv 3) (nin rfl)) daNil))))) dsNil)
  (dsOne (dsSet (i := 2) (deVar (pv 4) (nin rfl)) (nin rfl) (fun te h => ps_set (i := 2) sc_wrong_moves.nd rfl (by first | exact .inl rfl | exact .inr rfl) h)))))
  (dsOne (dsRet deNon))))))
theorem sc_wrong_place : FnScope ["thing", "n", "q", "cures", "signs", "moves"] ["thing"] (defScope s_wrong_place) := ⟨rfl, rfl, rfl, by decide +kernel, rfl, by decide +kernel, by decide +kernel⟩
theorem ok_wrong_place (G : Gs K mg C_BadLot C_BadRig C_Refused) {f : Addr} {cdv : Value} (D : At K mg "wrong_place" s_wrong_place ["thing"] f cdv) (D_is_tuple_of : Good Pg w K mg base T 1 "is_tuple_of" ["thing", "least", "most"] f_is_tuple_of) (D_is_from : Good Pg w K mg base T 2 "is_from" ["thing", "least", "most"] f_is_from) (D_wrong_cures : Good Pg w K mg base T 3 "wrong_cures" ["cures", "n", "q"] f_wrong_cures) (D_wrong_signs : Good Pg w K mg base T 4 "wrong_signs" ["signs", "n"] f_wrong_signs) (D_wrong_moves : Good Pg w K mg base T 3 "wrong_moves" ["moves", "settings"] f_wrong_moves) : Good Pg w K mg base T 5 "wrong_place" ["thing"] f_wrong_place :=
  goodOf (dfnC (N := ["thing", "n", "q", "cures", "signs", "moves"]) (P := []) (body := b_wrong_place) D sc_wrong_place (by decide) fun A outer s H E hG hr =>
  (dsCons (dsIf (dtNot (dtOf (deCall D_is_tuple_of.1 hG (hr.mono (by decide)) (takes_of rfl rfl rfl rfl) (agVal (deVar (pv 0) (nin rfl)) (agVal deInt (agVal deInt agNil))) rfl))) (dsOne (dsRet (deTup (daCons (deNeg deInt) daNil)))) dsNil)
  (dsCons (dsAsg (deVar (pv 0) (nin rfl)) (dgTup rfl (dgCons (dgName (pg_name (i := 1) sc_wrong_place.nd rfl (by first | exact .inl rfl | exact .inr rfl)) (nin rfl)) (dgCons (dgName (pg_name (i := 2) sc_wrong_place.nd rfl (by first | exact .inl rfl | exact .inr rfl)) (nin rfl)) (dgCons (dgName (pg_name (i := 3) sc_wrong_place.nd rfl (by first | exact .inl rfl | exact .inr rfl)) (nin rfl)) (dgCons (dgName (pg_name (i := 4) sc_wrong_place.nd rfl (by first | exact .inl rfl | exact .inr rfl)) (nin rfl)) (dgCons (dgName (pg_name (i := 5) sc_wrong_place.nd rfl (by first | exact .inl rfl | exact .inr rfl)) (nin rfl)) dgNil)))))))
  (dsCons (dsIf (dtNot (dtOf (deCall D_is_from.1 hG (hr.mono (by decide)) (takes_of rfl rfl rfl rfl) (agVal (deVar (pv 1) (nin rfl)) (agVal deInt (agVal (deGlob (v := .int 24) (d := .int 24) rfl G.c_MOST_FAULTS.choose_spec ⟨_, rfl⟩ (fun _ => .int _)) agNil))) rfl))) (dsOne (dsRet (deTup (daCons (deGlob (v := .int 0) (d := .int 0) rfl G.c_FAULTS.choose_spec ⟨_, rfl⟩ (fun _ => .int _)) daNil)))) dsNil)
  (dsCons (dsIf (dtNot (dtOf (deCall D_is_from.1 hG (hr.mono (by decide)) (takes_of rfl rfl rfl rfl) (agVal (deVar (pv 2) (nin rfl)) (agVal deInt (agVal (deGlob (v := .int 16) (d := .int 16) rfl G.c_MOST_REMEDIES.choose_spec ⟨_, rfl⟩ (fun _ => .int _)) agNil))) rfl))) (dsOne (dsRet (deTup (daCons (deGlob (v := .int 1) (d := .int 1) rfl G.c_REMEDIES.choose_spec ⟨_, rfl⟩ (fun _ => .int _)) daNil)))) dsNil)
  (dsOne (dsRet (deOr (deCall D_wrong_cures.1 hG (hr.mono (by decide)) (takes_of rfl rfl rfl rfl) (agVal (deVar (pv 3) (nin rfl)) (agVal (deVar (pv 1) (nin rfl)) (agVal (deVar (pv 2) (nin rfl)) agNil))) rfl) (deOr (deCall D_wrong_signs.1 hG (hr.mono (by decide)) (takes_of rfl rfl rfl rfl) (agVal (deVar (pv 4) (nin rfl)) (agVal (deVar (pv 1) (nin rfl)) agNil)) rfl) (deOne (deCall D_wrong_moves.1 hG (hr.mono (by decide)) (takes_of rfl rfl rfl rfl) (agVal (deVar (pv 5) (nin rfl)) (agVal (deLenV (pv 4) rfl G.n_len) agNil)) rfl)))))))))))
theorem sc_made_rig : FnScope ["thing", "where"] ["thing"] (defScope s_made_rig) := ⟨rfl, rfl, rfl, by decide +kernel, rfl, by decide +kernel, by decide +kernel⟩
theorem ok_made_rig (G : Gs K mg C_BadLot C_BadRig C_Refused) {f : Addr} {cdv : Value} (D : At K mg "made_rig" s_made_rig ["thing"] f cdv) (D_wrong_place : Good Pg w K mg base T 5 "wrong_place" ["thing"] f_wrong_place) : Good Pg w K mg base T 6 "made_rig" ["thing"] f_made_rig :=
  goodOf (dfnC (N := ["thing", "where"]) (P := []) (body := b_made_rig) D sc_made_rig (by decide) fun A outer s H E hG hr =>
  (dsCons (dsSet (i := 1) (deCall D_wrong_place.1 hG (hr.mono (by decide)) (takes_of rfl rfl rfl rfl) (agVal (deVar (pv 0) (nin rfl)) agNil) rfl) (nin rfl) (fun te h => ps_set (i := 1) sc_made_rig.nd rfl (by first | exact .inl rfl | exact .inr rfl) h))
  (dsCons (dsIf (dtNotN (deVar (pv 1) (nin rfl))) (dsOne (dsRaise rfl G.x_BadRig.choose_spec hr (takes_of rfl rfl rfl rfl) (deVar (pv 1) (nin rfl)) rfl (by decide))) dsNil)
  (dsOne (dsRet (deVar (pv 0) (nin rfl)))))))
theorem sc_check_lot : FnScope ["rig", "lot"] ["rig", "lot"] (defScope s_check_lot) := ⟨rfl, rfl, rfl, by decide +kernel, rfl, by decide +kernel, by decide +kernel⟩
theorem ok_check_lot (G : Gs K mg C_BadLot C_BadRig C_Refused) {f : Addr} {cdv : Value} (D : At K mg "check_lot" s_check_lot ["rig", "lot"] f cdv) (D_is_ascending : Good Pg w K mg base T 2 "is_ascending" ["thing", "many"] f_is_ascending) : Good Pg w K mg base T 3 "check_lot" ["rig", "lot"] f_check_lot :=
  goodOf (dfnC (N := ["rig", "lot"]) (P := []) (body := b_check_lot) D sc_check_lot (by decide) fun A outer s H E hG hr =>
  (dsOne (dsIf (dtNot (dtOf (deCall D_is_ascending.1 hG (hr.mono (by decide)) (takes_of rfl rfl rfl rfl) (agVal (deVar (pv 1) (nin rfl)) (agVal (deIxV (pv 0) (deGlob (v := .int 0) (d := .int 0) rfl G.c_FAULTS.choose_spec ⟨_, rfl⟩ (fun _ => .int _)) (fun _ _ => rfl)) agNil)) rfl))) (dsOne (dsRaise rfl G.x_BadLot.choose_spec hr (takes_of rfl rfl rfl rfl) (deNeg deInt) rfl (by decide))) dsNil)))
theorem sc_check_rig_and_lot : FnScope ["rig", "lot"] ["rig", "lot"] (defScope s_check_rig_and_lot) := ⟨rfl, rfl, rfl, by decide +kernel, rfl, by decide +kernel, by decide +kernel⟩
theorem ok_check_rig_and_lot (G : Gs K mg C_BadLot C_BadRig C_Refused) {f : Addr} {cdv : Value} (D : At K mg "check_rig_and_lot" s_check_rig_and_lot ["rig", "lot"] f cdv) (D_made_rig : Good Pg w K mg base T 6 "made_rig" ["thing"] f_made_rig) (D_check_lot : Good Pg w K mg base T 3 "check_lot" ["rig", "lot"] f_check_lot) : Good Pg w K mg base T 7 "check_rig_and_lot" ["rig", "lot"] f_check_rig_and_lot :=
  goodOf (dfnC (N := ["rig", "lot"]) (P := []) (body := b_check_rig_and_lot) D sc_check_rig_and_lot (by decide) fun A outer s H E hG hr =>
  (dsCons (dsExpr (deCall D_made_rig.1 hG (hr.mono (by decide)) (takes_of rfl rfl rfl rfl) (agVal (deVar (pv 0) (nin rfl)) agNil) rfl))
  (dsOne (dsExpr (deCall D_check_lot.1 hG (hr.mono (by decide)) (takes_of rfl rfl rfl rfl) (agVal (deVar (pv 0) (nin rfl)) (agVal (deVar (pv 1) (nin rfl)) agNil)) rfl)))))
theorem sc_every_fault : FnScope ["rig"] ["rig"] (defScope s_every_fault) := ⟨rfl, rfl, rfl, by decide +kernel, rfl, by decide +kernel, by decide +kernel⟩
theorem ok_every_fault (G : Gs K mg C_BadLot C_BadRig C_Refused) {f : Addr} {cdv : Value} (D : At K mg "every_fault" s_every_fault ["rig"] f cdv)  : Good Pg w K mg base T 1 "every_fault" ["rig"] f_every_fault :=
  goodOf (dfnC (N := ["rig"]) (P := []) (body := b_every_fault) D sc_every_fault (by decide) fun A outer s H E hG hr =>
  (dsOne (dsRet (deTupRg rfl rfl G.n_tuple rfl G.n_range (deIxV (pv 0) (deGlob (v := .int 0) (d := .int 0) rfl G.c_FAULTS.choose_spec ⟨_, rfl⟩ (fun _ => .int _)) (fun _ _ => rfl))))))
theorem sc_all_faults : FnScope ["rig"] ["rig"] (defScope s_all_faults) := ⟨rfl, rfl, rfl, by decide +kernel, rfl, by decide +kernel, by decide +kernel⟩
theorem ok_all_faults (G : Gs K mg C_BadLot C_BadRig C_Refused) {f : Addr} {cdv : Value} (D : At K mg "all_faults" s_all_faults ["rig"] f cdv) (D_made_rig : Good Pg w K mg base T 6 "made_rig" ["thing"] f_made_rig) (D_every_fault : Good Pg w K mg base T 1 "every_fault" ["rig"] f_every_fault) : Good Pg w K mg base T 7 "all_faults" ["rig"] f_all_faults :=
  goodOf (dfnC (N := ["rig"]) (P := []) (body := b_all_faults) D sc_all_faults (by decide) fun A outer s H E hG hr =>
  (dsCons (dsExpr (deCall D_made_rig.1 hG (hr.mono (by decide)) (takes_of rfl rfl rfl rfl) (agVal (deVar (pv 0) (nin rfl)) agNil) rfl))
  (dsOne (dsRet (deCall D_every_fault.1 hG (hr.mono (by decide)) (takes_of rfl rfl rfl rfl) (agVal (deVar (pv 0) (nin rfl)) agNil) rfl)))))
theorem sc_common_remedies : FnScope ["rig", "lot", "common", "x", "r"] ["rig", "lot"] (defScope s_common_remedies) := ⟨rfl, rfl, rfl, by decide +kernel, rfl, by decide +kernel, by decide +kernel⟩
theorem ok_common_remedies (G : Gs K mg C_BadLot C_BadRig C_Refused) {f : Addr} {cdv : Value} (D : At K mg "common_remedies" s_common_remedies ["rig", "lot"] f cdv)  : Good Pg w K mg base T 1 "common_remedies" ["rig", "lot"] f_common_remedies :=
  goodOf (dfnC (N := ["rig", "lot", "common", "x", "r"]) (P := []) (body := b_common_remedies) D sc_common_remedies (by decide) fun A outer s H E hG hr =>
  (dsCons (dsSet (i := 2) (deLstRg rfl rfl G.n_list rfl G.n_range (deIxV (pv 0) (deGlob (v := .int 1) (d := .int 1) rfl G.c_REMEDIES.choose_spec ⟨_, rfl⟩ (fun _ => .int _)) (fun _ _ => rfl))) (nin rfl) (fun te h => ps_set (i := 2) sc_common_remedies.nd rfl (by first | exact .inl rfl | exact .inr rfl) h))
  (dsCons (dsFor (passes_of rfl) rfl (diSeq (deVar (pv 1) (nin rfl))) (dgName (pg_name (i := 3) sc_common_remedies.nd rfl (by first | exact .inl rfl | exact .inr rfl)) (nin rfl)) (dsOne (by first | exact dsSetComp (i := 2) (nin rfl) rfl sc_common_remedies.nd rfl rfl rfl (diSeq (deVar (pv 2) (nin rfl))) (own := [("r", 4)]) (by show BlkOk ["rig", "lot", "common", "x", "r"] (defScope s_common_remedies) _ _; constructor <;> decide +kernel) (nins rfl) (by decide) (fun _ _ _ _ _ => (dgName (pg_name (i := 4) sc_common_remedies.nd rfl (by first | exact .inl rfl | exact .inr rfl)) (nin rfl))) (fun _ _ _ _ _ => (dtsOne (dtCmp (oIn (Room.u65 hr)) (deVar (pv 4) (nin rfl)) (deIx oIx (deIxV (pv 0) (deGlob (v := .int 2) (d := .int 2) rfl G.c_CURES.choose_spec ⟨_, rfl⟩ (fun _ => .int _)) (fun _ _ => rfl)) (deVar (pv 3) (nin rfl)) (fun _ _ => rfl)) (by first | rfl | exact nomark _)))) (fun _ _ _ _ _ => (deVar (pv 4) (nin rfl))) | exact dsSetHot (i := 2) (dfComp rfl sc_common_remedies.nd (diSeq (deVar (pv 2) (nin rfl))) (own := [("r", 4)]) (by show BlkOk ["rig", "lot", "common", "x", "r"] (defScope s_common_remedies) _ _; constructor <;> decide +kernel) (nins rfl) (by decide) (fun _ _ _ _ _ => (dgName (pg_name (i := 4) sc_common_remedies.nd rfl (by first | exact .inl rfl | exact .inr rfl)) (nin rfl))) (fun _ _ _ _ _ => (dtsOne (dtCmp (oIn (Room.u65 hr)) (deVar (pv 4) (nin rfl)) (deIx oIx (deIxV (pv 0) (deGlob (v := .int 2) (d := .int 2) rfl G.c_CURES.choose_spec ⟨_, rfl⟩ (fun _ => .int _)) (fun _ _ => rfl)) (deVar (pv 3) (nin rfl)) (fun _ _ => rfl)) (by first | rfl | exact nomark _)))) (fun _ _ _ _ _ => (deVar (pv 4) (nin rfl)))) (nin rfl) (fun te h => ps_set (i := 2) sc_common_remedies.nd rfl (by first | exact .inl rfl | exact .inr rfl) h))))
  (dsOne (dsRet (deTy kTup (daCons (deVar (pv 2) (nin rfl)) daNil) rfl G.n_tuple (by decide +kernel)))))))
theorem sc_remedies_for : FnScope ["rig", "lot"] ["rig", "lot"] (defScope s_remedies_for) := ⟨rfl, rfl, rfl, by decide +kernel, rfl, by decide +kernel, by decide +kernel⟩
theorem ok_remedies_for (G : Gs K mg C_BadLot C_BadRig C_Refused) {f : Addr} {cdv : Value} (D : At K mg "remedies_for" s_remedies_for ["rig", "lot"] f cdv) (D_check_rig_and_lot : Good Pg w K mg base T 7 "check_rig_and_lot" ["rig", "lot"] f_check_rig_and_lot) (D_common_remedies : Good Pg w K mg base T 1 "common_remedies" ["rig", "lot"] f_common_remedies) : Good Pg w K mg base T 8 "remedies_for" ["rig", "lot"] f_remedies_for :=
  goodOf (dfnC (N := ["rig", "lot"]) (P := []) (body := b_remedies_for) D sc_remedies_for (by decide) fun A outer s H E hG hr =>
  (dsCons (dsExpr (deCall D_check_rig_and_lot.1 hG (hr.mono (by decide)) (takes_of rfl rfl rfl rfl) (agVal (deVar (pv 0) (nin rfl)) (agVal (deVar (pv 1) (nin rfl)) agNil)) rfl))
  (dsOne (dsRet (deCall D_common_remedies.1 hG (hr.mono (by decide)) (takes_of rfl rfl rfl rfl) (agVal (deVar (pv 0) (nin rfl)) (agVal (deVar (pv 1) (nin rfl)) agNil)) rfl)))))
theorem sc_done : FnScope ["rig", "lot"] ["rig", "lot"] (defScope s_done) := ⟨rfl, rfl, rfl, by decide +kernel, rfl, by decide +kernel, by decide +kernel⟩
theorem ok_done (G : Gs K mg C_BadLot C_BadRig C_Refused) {f : Addr} {cdv : Value} (D : At K mg "done" s_done ["rig", "lot"] f cdv) (D_check_rig_and_lot : Good Pg w K mg base T 7 "check_rig_and_lot" ["rig", "lot"] f_check_rig_and_lot) (D_common_remedies : Good Pg w K mg base T 1 "common_remedies" ["rig", "lot"] f_common_remedies) : Good Pg w K mg base T 8 "done" ["rig", "lot"] f_done :=
  goodOf (dfnC (N := ["rig", "lot"]) (P := []) (body := b_done) D sc_done (by decide) fun A outer s H E hG hr =>
  (dsCons (dsExpr (deCall D_check_rig_and_lot.1 hG (hr.mono (by decide)) (takes_of rfl rfl rfl rfl) (agVal (deVar (pv 0) (nin rfl)) (agVal (deVar (pv 1) (nin rfl)) agNil)) rfl))
  (dsOne (dsRet (deCmp oGt (deB (kLen) (daCons (deCall D_common_remedies.1 hG (hr.mono (by decide)) (takes_of rfl rfl rfl rfl) (agVal (deVar (pv 0) (nin rfl)) (agVal (deVar (pv 1) (nin rfl)) agNil)) rfl) daNil) rfl G.n_len (by decide +kernel)) deInt (by first | rfl | exact nomark _))))))
theorem sc_law_pool : FnScope ["script", "k", "cell", "big", "mixed"] ["script", "k"] (defScope s_law_pool) := ⟨rfl, rfl, rfl, by decide +kernel, rfl, by decide +kernel, by decide +kernel⟩
theorem ok_law_pool (G : Gs K mg C_BadLot C_BadRig C_Refused) {f : Addr} {cdv : Value} (D : At K mg "_law_pool" s_law_pool ["script", "k"] f cdv)  : Good Pg w K mg base T 1 "_law_pool" ["script", "k"] f_law_pool :=
  goodOf (dfnC (N := ["script", "k", "cell", "big", "mixed"]) (P := []) (body := b_law_pool) D sc_law_pool (by decide) fun A outer s H E hG hr =>
  (dsCons (dsSet (i := 2) deInt (nin rfl) (fun te h => ps_set (i := 2) sc_law_pool.nd rfl (by first | exact .inl rfl | exact .inr rfl) h))
  (dsCons (dsIf (dtCmp (oLt (Room.u64 hr)) (deVar (pv 1) (nin rfl)) (deLenV (pv 0) rfl G.n_len) (by first | rfl | exact nomark _)) (dsOne (dsSet (i := 2) (deIxV (pv 0) (deVar (pv 1) (nin rfl)) (fun _ _ => rfl)) (nin rfl) (fun te h => ps_set (i := 2) sc_law_pool.nd rfl (by first | exact .inl rfl | exact .inr rfl) h))) (dsOne (dsIf (dtCmp (oNe (Room.u64 hr)) (deVar (pv 0) (nin rfl)) (deLst daNil) (by first | rfl | exact nomark _)) (dsOne (dsSet (i := 2) (deIxV (pv 0) deInt (fun _ _ => rfl)) (nin rfl) (fun te h => ps_set (i := 2) sc_law_pool.nd rfl (by first | exact .inl rfl | exact .inr rfl) h))) dsNil)))
  (dsCons (dsSet (i := 3) (deB (kMax rfl) (daCons (deTy kInt (daCons (deVar (pv 2) (nin rfl)) daNil) rfl G.n_int (by decide +kernel)) (daCons (deTy kInt (daCons (deOp oSub (deNeg deInt) (deVar (pv 2) (nin rfl))) daNil) rfl G.n_int (by decide +kernel)) daNil)) rfl G.n_max (by decide +kernel)) (nin rfl) (fun te h => ps_set (i := 3) sc_law_pool.nd rfl (by first | exact .inl rfl | exact .inr rfl) h))
  (dsCons (dsSet (i := 4) (deOp oMod (deTy kInt (daCons (deOp oMul (deOp oAdd (deOp oAdd (deOp oAdd (deOp oMod (deTy kInt (daCons (deVar (pv 3) (nin rfl)) daNil) rfl G.n_int (by decide +kernel)) deInt) (deOp oMul (deOp oMul deInt (deVar (pv 1) (nin rfl))) (deVar (pv 1) (nin rfl)))) (deOp oMul deInt (deVar (pv 1) (nin rfl)))) deInt) deInt) daNil) rfl G.n_int (by decide +kernel)) deInt) (nin rfl) (fun te h => ps_set (i := 4) sc_law_pool.nd rfl (by first | exact .inl rfl | exact .inr rfl) h))
  (dsOne (dsRetF (dfLst (daCons (deOp oMul (deVar (pv 3) (nin rfl)) (deTy kInt (daCons (deAnd (deCmp oGe (deVar (pv 3) (nin rfl)) (deOp oPow deInt deInt) (by first | rfl | exact nomark _)) (deOne (deCmp (oLt (Room.u64 hr)) (deVar (pv 1) (nin rfl)) (deLenV (pv 0) rfl G.n_len) (by first | rfl | exact nomark _)))) daNil) rfl G.n_int (by decide +kernel))) (daCons (deVar (pv 4) (nin rfl)) daNil))))))))))
theorem sc_law_take : FnScope ["source", "top", "drawn"] ["source", "top"] (defScope s_law_take) := ⟨rfl, rfl, rfl, by decide +kernel, rfl, by decide +kernel, by decide +kernel⟩
theorem ok_law_take (G : Gs K mg C_BadLot C_BadRig C_Refused) {f : Addr} {cdv : Value} (D : At K mg "_law_take" s_law_take ["source", "top"] f cdv)  : Good Pg w K mg base T 1 "_law_take" ["source", "top"] f_law_take :=
  goodOf (dfnC (N := ["source", "top", "drawn"]) (P := [0]) (body := b_law_take) D sc_law_take (by decide) fun A outer s H E hG hr =>
  (dsCons (dsIf (dtCmp oGt (deIxV (pv 0) deInt (fun _ _ => rfl)) deInt (by first | rfl | exact nomark _)) (dsCons (dsSet (i := 2) (deOp oMod (deTy kInt (daCons (deIxV (pv 0) deInt (fun _ _ => rfl)) daNil) rfl G.n_int (by decide +kernel)) (deVar (pv 1) (nin rfl))) (nin rfl) (fun te h => ps_set (i := 2) sc_law_take.nd rfl (by first | exact .inl rfl | exact .inr rfl) h))
  (dsCons (dsStore (pv 0) deInt (deOp oDiv (deIxV (pv 0) deInt (fun _ _ => rfl)) (deVar (pv 1) (nin rfl))))
  (dsOne (dsRet (deVar (pv 2) (nin rfl)))))) dsNil)
  (dsCons (dsStore (pv 0) deInt (deOp oMod (deTy kInt (daCons (deOp oAdd (deOp oMul (deIxV (pv 0) deInt (fun _ _ => rfl)) deInt) deInt) daNil) rfl G.n_int (by decide +kernel)) deInt))
  (dsOne (dsRet (deOp oMod (deTy kInt (daCons (deOp oDiv (deOp oMod (deTy kInt (daCons (deOp oMul (deIxV (pv 0) deInt (fun _ _ => rfl)) (deIxV (pv 0) deInt (fun _ _ => rfl))) daNil) rfl G.n_int (by decide +kernel)) deInt) deInt) daNil) rfl G.n_int (by decide +kernel)) (deVar (pv 1) (nin rfl))))))))
theorem sc_law_one : FnScope ["source", "things"] ["source", "things"] (defScope s_law_one) := ⟨rfl, rfl, rfl, by decide +kernel, rfl, by decide +kernel, by decide +kernel⟩
theorem ok_law_one (G : Gs K mg C_BadLot C_BadRig C_Refused) {f : Addr} {cdv : Value} (D : At K mg "_law_one" s_law_one ["source", "things"] f cdv) (D_law_take : Good Pg w K mg base T 1 "_law_take" ["source", "top"] f_law_take) : Good Pg w K mg base T 2 "_law_one" ["source", "things"] f_law_one :=
  goodOf (dfnC (N := ["source", "things"]) (P := [0]) (body := b_law_one) D sc_law_one (by decide) fun A outer s H E hG hr =>
  (dsOne (dsRet (deIxV (pv 1) (deCall D_law_take.1 hG (hr.mono (by decide)) (takes_of rfl rfl rfl rfl) (agHot (pv 0) (agVal (deLenV (pv 1) rfl G.n_len) agNil)) rfl) (fun _ _ => rfl)))))
theorem sc_law_some : FnScope ["source", "things", "thing"] ["source", "things"] (defScope s_law_some) := ⟨rfl, rfl, rfl, by decide +kernel, rfl, by decide +kernel, by decide +kernel⟩
theorem ok_law_some (G : Gs K mg C_BadLot C_BadRig C_Refused) {f : Addr} {cdv : Value} (D : At K mg "_law_some" s_law_some ["source", "things"] f cdv) (D_law_take : Good Pg w K mg base T 1 "_law_take" ["source", "top"] f_law_take) : Good Pg w K mg base T 2 "_law_some" ["source", "things"] f_law_some :=
  goodOf (dfnC (N := ["source", "things", "thing"]) (P := [0]) (body := b_law_some) D sc_law_some (by decide) fun A outer s H E hG hr =>
  (dsOne (dsRet (deOfF (dfComp rfl sc_law_some.nd (diSeq (deVar (pv 1) (nin rfl))) (own := [("thing", 2)]) (by show BlkOk ["source", "things", "thing"] (defScope s_law_some) _ _; constructor <;> decide +kernel) (nins rfl) (by decide) (fun _ _ _ _ _ => (dgName (pg_name (i := 2) sc_law_some.nd rfl (by first | exact .inl rfl | exact .inr rfl)) (nin rfl))) (fun _ _ _ _ _ => (dtsOne (dtCmp (oEq (Room.u64 hr)) (deCall D_law_take.1 hG (hr.mono (by decide)) takes_none5 (agHot (pv 0) (agVal deInt agNil)) rfl) deInt (by first | rfl | exact nomark _)))) (fun _ _ _ _ _ => (deVar (pv 2) (nin rfl))))))))
theorem sc_law_wide_rig : FnScope ["source", "n", "q", "cures", "x", "some", "r"] ["source"] (defScope s_law_wide_rig) := ⟨rfl, rfl, rfl, by decide +kernel, rfl, by decide +kernel, by decide +kernel⟩
theorem ok_law_wide_rig (G : Gs K mg C_BadLot C_BadRig C_Refused) {f : Addr} {cdv : Value} (D : At K mg "_law_wide_rig" s_law_wide_rig ["source"] f cdv) (D_law_one : Good Pg w K mg base T 2 "_law_one" ["source", "things"] f_law_one) (D_law_take : Good Pg w K mg base T 1 "_law_take" ["source", "top"] f_law_take) (D_law_some : Good Pg w K mg base T 2 "_law_some" ["source", "things"] f_law_some) : Good Pg w K mg base T 3 "_law_wide_rig" ["source"] f_law_wide_rig :=
  goodOf (dfnC (N := ["source", "n", "q", "cures", "x", "some", "r"]) (P := [0]) (body := b_law_wide_rig) D sc_law_wide_rig (by decide) fun A outer s H E hG hr =>
  (dsCons (dsSet (i := 1) (deCall D_law_one.1 hG (hr.mono (by decide)) (takes_of rfl rfl rfl rfl) (agHot (pv 0) (agVal (deLst (daCons (deOp oAdd deInt (deCall D_law_take.1 hG (hr.mono (by decide)) (takes_of rfl rfl rfl rfl) (agHot (pv 0) (agVal deInt agNil)) rfl)) (daCons (deOp oAdd deInt (deCall D_law_take.1 hG (hr.mono (by decide)) (takes_of rfl rfl rfl rfl) (agHot (pv 0) (agVal deInt agNil)) rfl)) (daCons deInt daNil)))) agNil)) rfl) (nin rfl) (fun te h => ps_set (i := 1) sc_law_wide_rig.nd rfl (by first | exact .inl rfl | exact .inr rfl) h))
  (dsCons (dsParH (i := 2) (j := 3) rfl sc_law_wide_rig.nd rfl rfl (by decide) rfl rfl (nin rfl) (nin rfl) (deCall D_law_one.1 hG (hr.mono (by decide)) (takes_of rfl rfl rfl rfl) (agHot (pv 0) (agVal (deLst (daCons deInt (daCons deInt (daCons deInt (daCons (deOp oAdd deInt (deCall D_law_take.1 hG (hr.mono (by decide)) (takes_of rfl rfl rfl rfl) (agHot (pv 0) (agVal deInt agNil)) rfl)) daNil))))) agNil)) rfl) (dfLst daNil) rfl)
  (dsCons (dsFor (passes_of rfl) rfl (diRng1 rfl G.n_range (daCons (deVar (pv 1) (nin rfl)) daNil)) (dgName (pg_name (i := 4) sc_law_wide_rig.nd rfl (by first | exact .inl rfl | exact .inr rfl)) (nin rfl)) (dsCons (dsSet (i := 5) (deCall D_law_some.1 hG (hr.mono (by decide)) (takes_of rfl rfl rfl rfl) (agHot (pv 0) (agVal (deOfF (dfComp rfl sc_law_wide_rig.nd (diRng1 rfl G.n_range (daCons (deVar (pv 2) (nin rfl)) daNil)) (own := [("r", 6)]) (by show BlkOk ["source", "n", "q", "cures", "x", "some", "r"] (defScope s_law_wide_rig) _ _; constructor <;> decide +kernel) (nins rfl) (by decide) (fun _ _ _ _ _ => (dgName (pg_name (i := 6) sc_law_wide_rig.nd rfl (by first | exact .inl rfl | exact .inr rfl)) (nin rfl))) (fun _ _ _ _ _ => dtsNil) (fun _ _ _ _ _ => (deVar (pv 6) (nin rfl))))) agNil)) rfl) (nin rfl) (fun te h => ps_set (i := 5) sc_law_wide_rig.nd rfl (by first | exact .inl rfl | exact .inr rfl) h))
  (dsOne (dsApp (deTy kTup (daCons (deCall D_law_one.1 hG (hr.mono (by decide)) (takes_of rfl rfl rfl rfl) (agHot (pv 0) (agVal (deLst (daCons (deVar (pv 5) (nin rfl)) (daCons (deVar (pv 5) (nin rfl)) (daCons (deLst daNil) (daCons (deOfF (dfComp rfl sc_law_wide_rig.nd (diRng1 rfl G.n_range (daCons (deVar (pv 2) (nin rfl)) daNil)) (own := [("r", 6)]) (by show BlkOk ["source", "n", "q", "cures", "x", "some", "r"] (defScope s_law_wide_rig) _ _; constructor <;> decide +kernel) (nins rfl) (by decide) (fun _ _ _ _ _ => (dgName (pg_name (i := 6) sc_law_wide_rig.nd rfl (by first | exact .inl rfl | exact .inr rfl)) (nin rfl))) (fun _ _ _ _ _ => dtsNil) (fun _ _ _ _ _ => (deVar (pv 6) (nin rfl))))) (daCons (deLst (daCons (deCall D_law_take.1 hG (hr.mono (by decide)) (takes_of rfl rfl rfl rfl) (agHot (pv 0) (agVal (deVar (pv 2) (nin rfl)) agNil)) rfl) daNil)) daNil)))))) agNil)) rfl) daNil) rfl G.n_tuple (by decide +kernel)) (fun t h => pe_bm PySem.F.plainAttrs_list PySem.F.slot_list_append PySem.F.type_list_append mt_append (pv 3) h)))))
  (dsOne (dsRet (deTup (daCons (deVar (pv 1) (nin rfl)) (daCons (deVar (pv 2) (nin rfl)) (daCons (deTy kTup (daCons (deVar (pv 3) (nin rfl)) daNil) rfl G.n_tuple (by decide +kernel)) (daCons (deTup (daCons (deOp oMul (deTup (daCons deInt daNil)) (deVar (pv 1) (nin rfl))) daNil)) (daCons (deTup daNil) daNil))))))))))))
theorem sc_law_due_remedies : FnScope ["rig", "lot", "found", "r", "x"] ["rig", "lot"] (defScope s_law_due_remedies) := ⟨rfl, rfl, rfl, by decide +kernel, rfl, by decide +kernel, by decide +kernel⟩
theorem ok_law_due_remedies (G : Gs K mg C_BadLot C_BadRig C_Refused) {f : Addr} {cdv : Value} (D : At K mg "_law_due_remedies" s_law_due_remedies ["rig", "lot"] f cdv)  : Good Pg w K mg base T 1 "_law_due_remedies" ["rig", "lot"] f_law_due_remedies :=
  goodOf (dfnC (N := ["rig", "lot", "found", "r", "x"]) (P := []) (body := b_law_due_remedies) D sc_law_due_remedies (by decide) fun A outer s H E hG hr =>
  (dsCons (dsSetHot (i := 2) (dfLst daNil) (nin rfl) (fun te h => ps_set (i := 2) sc_law_due_remedies.nd rfl (by first | exact .inl rfl | exact .inr rfl) h))
  (dsCons (dsFor (passes_of rfl) rfl (diRng1 rfl G.n_range (daCons (deIxV (pv 0) deInt (fun _ _ => rfl)) daNil)) (dgName (pg_name (i := 3) sc_law_due_remedies.nd rfl (by first | exact .inl rfl | exact .inr rfl)) (nin rfl)) (dsOne (dsIf (dtCmp (oEq (Room.u64 hr)) (deOfF (dfComp rfl sc_law_due_remedies.nd (diSeq (deVar (pv 1) (nin rfl))) (own := [("x", 4)]) (by show BlkOk ["rig", "lot", "found", "r", "x"] (defScope s_law_due_remedies) _ _; constructor <;> decide +kernel) (nins rfl) (by decide) (fun _ _ _ _ _ => (dgName (pg_name (i := 4) sc_law_due_remedies.nd rfl (by first | exact .inl rfl | exact .inr rfl)) (nin rfl))) (fun _ _ _ _ _ => (dtsOne (dtCmp (oNotIn (Room.u65 hr)) (deVar (pv 3) (nin rfl)) (deIx oIx (deIxV (pv 0) deInt (fun _ _ => rfl)) (deVar (pv 4) (nin rfl)) (fun _ _ => rfl)) (by first | rfl | exact nomark _)))) (fun _ _ _ _ _ => (deVar (pv 4) (nin rfl))))) (deLst daNil) (by first | rfl | exact nomark _)) (dsOne (dsApp (deVar (pv 3) (nin rfl)) (fun t h => pe_bm PySem.F.plainAttrs_list PySem.F.slot_list_append PySem.F.type_list_append mt_append (pv 2) h))) dsNil)))
  (dsOne (dsRet (deTy kTup (daCons (deVar (pv 2) (nin rfl)) daNil) rfl G.n_tuple (by decide +kernel)))))))
theorem sc_law_lot_right : FnScope ["source", "rig", "lot", "due", "lesser", "some", "r"] ["source", "rig", "lot"] (defScope s_law_lot_right) := ⟨rfl, rfl, rfl, by decide +kernel, rfl, by decide +kernel, by decide +kernel⟩
theorem ok_law_lot_right (G : Gs K mg C_BadLot C_BadRig C_Refused) {f : Addr} {cdv : Value} (D : At K mg "_law_lot_right" s_law_lot_right ["source", "rig", "lot"] f cdv) (D_law_some : Good Pg w K mg base T 2 "_law_some" ["source", "things"] f_law_some) (D_law_due_remedies : Good Pg w K mg base T 1 "_law_due_remedies" ["rig", "lot"] f_law_due_remedies) (D_remedies_for : Good Pg w K mg base T 8 "remedies_for" ["rig", "lot"] f_remedies_for) (D_done : Good Pg w K mg base T 8 "done" ["rig", "lot"] f_done) : Good Pg w K mg base T 9 "_law_lot_right" ["source", "rig", "lot"] f_law_lot_right :=
  goodOf (dfnC (N := ["source", "rig", "lot", "due", "lesser", "some", "r"]) (P := [0]) (body := b_law_lot_right) D sc_law_lot_right (by decide) fun A outer s H E hG hr =>
  (dsCons (dsPar (i := 3) (j := 4) rfl sc_law_lot_right.nd rfl rfl (by decide) rfl rfl (nin rfl) (nin rfl) (daCons (deCall D_law_due_remedies.1 hG (hr.mono (by decide)) (takes_of rfl rfl rfl rfl) (agVal (deVar (pv 1) (nin rfl)) (agVal (deVar (pv 2) (nin rfl)) agNil)) rfl) (daCons (deTy kTup (daCons (deCall D_law_some.1 hG (hr.mono (by decide)) (takes_of rfl rfl rfl rfl) (agHot (pv 0) (agVal (deVar (pv 2) (nin rfl)) agNil)) rfl) daNil) rfl G.n_tuple (by decide +kernel)) daNil)) rfl)
  (dsCons (dsIf (dtW (dwOr (dtCmp (oNe (Room.u64 hr)) (deB (kRepr hG (Room.u80 hr)) (daCons (deCall D_remedies_for.1 hG (hr.mono (by decide)) (takes_of rfl rfl rfl rfl) (agVal (deVar (pv 1) (nin rfl)) (agVal (deVar (pv 2) (nin rfl)) agNil)) rfl) daNil) rfl G.n_repr (by decide +kernel)) (deB (kRepr hG (Room.u80 hr)) (daCons (deVar (pv 3) (nin rfl)) daNil) rfl G.n_repr (by decide +kernel)) (by first | rfl | exact nomark _)) (dwOr1 (dtCmp (oNe (Room.u64 hr)) (deB (kRepr hG (Room.u80 hr)) (daCons (deCall D_done.1 hG (hr.mono (by decide)) (takes_of rfl rfl rfl rfl) (agVal (deVar (pv 1) (nin rfl)) (agVal (deVar (pv 2) (nin rfl)) agNil)) rfl) daNil) rfl G.n_repr (by decide +kernel)) (deB (kRepr hG (Room.u80 hr)) (daCons (deCmp (oNe (Room.u64 hr)) (deVar (pv 3) (nin rfl)) (deTup daNil) (by first | rfl | exact nomark _)) daNil) rfl G.n_repr (by decide +kernel)) (by first | rfl | exact nomark _))))) (dsOne (dsRet deBl)) dsNil)
  (dsCons (dsSet (i := 5) (deCallK D_remedies_for.2.1 hG (hr.mono (by decide)) (takes_of rfl rfl rfl rfl) (dkVal (deVar (pv 1) (nin rfl)) (dkVal (deVar (pv 4) (nin rfl)) dkNil)) rfl) (nin rfl) (fun te h => ps_set (i := 5) sc_law_lot_right.nd rfl (by first | exact .inl rfl | exact .inr rfl) h))
  (dsOne (dsRet (deAnd (deCmp (oEq (Room.u64 hr)) (deOfF (dfComp rfl sc_law_lot_right.nd (diSeq (deVar (pv 3) (nin rfl))) (own := [("r", 6)]) (by show BlkOk ["source", "rig", "lot", "due", "lesser", "some", "r"] (defScope s_law_lot_right) _ _; constructor <;> decide +kernel) (nins rfl) (by decide) (fun _ _ _ _ _ => (dgName (pg_name (i := 6) sc_law_lot_right.nd rfl (by first | exact .inl rfl | exact .inr rfl)) (nin rfl))) (fun _ _ _ _ _ => (dtsOne (dtCmp (oNotIn (Room.u65 hr)) (deVar (pv 6) (nin rfl)) (deVar (pv 5) (nin rfl)) (by first | rfl | exact nomark _)))) (fun _ _ _ _ _ => (deVar (pv 6) (nin rfl))))) (deLst daNil) (by first | rfl | exact nomark _)) (deOne (deCmp (oEq (Room.u64 hr)) (deB (kRepr hG (Room.u80 hr)) (daCons (deCall D_done.1 hG (hr.mono (by decide)) (takes_of rfl rfl rfl rfl) (agVal (deVar (pv 1) (nin rfl)) (agVal (deVar (pv 4) (nin rfl)) agNil)) rfl) daNil) rfl G.n_repr (by decide +kernel)) (deB (kRepr hG (Room.u80 hr)) (daCons (deCmp (oNe (Room.u64 hr)) (deVar (pv 5) (nin rfl)) (deTup daNil) (by first | rfl | exact nomark _)) daNil) rfl G.n_repr (by decide +kernel)) (by first | rfl | exact nomark _))))))))))
theorem sc_law_both_right : FnScope ["rig", "one", "two", "both", "x", "first", "second", "r"] ["rig", "one", "two"] (defScope s_law_both_right) := ⟨rfl, rfl, rfl, by decide +kernel, rfl, by decide +kernel, by decide +kernel⟩
theorem ok_law_both_right (G : Gs K mg C_BadLot C_BadRig C_Refused) {f : Addr} {cdv : Value} (D : At K mg "_law_both_right" s_law_both_right ["rig", "one", "two"] f cdv) (D_remedies_for : Good Pg w K mg base T 8 "remedies_for" ["rig", "lot"] f_remedies_for) : Good Pg w K mg base T 9 "_law_both_right" ["rig", "one", "two"] f_law_both_right :=
  goodOf (dfnC (N := ["rig", "one", "two", "both", "x", "first", "second", "r"]) (P := []) (body := b_law_both_right) D sc_law_both_right (by decide) fun A outer s H E hG hr =>
  (dsCons (dsSet (i := 3) (deTy kTup (daCons (deOfF (dfComp rfl sc_law_both_right.nd (diRng1 rfl G.n_range (daCons (deIxV (pv 0) deInt (fun _ _ => rfl)) daNil)) (own := [("x", 4)]) (by show BlkOk ["rig", "one", "two", "both", "x", "first", "second", "r"] (defScope s_law_both_right) _ _; constructor <;> decide +kernel) (nins rfl) (by decide) (fun _ _ _ _ _ => (dgName (pg_name (i := 4) sc_law_both_right.nd rfl (by first | exact .inl rfl | exact .inr rfl)) (nin rfl))) (fun _ _ _ _ _ => (dtsOne (dtW (dwOr (dtCmp (oIn (Room.u65 hr)) (deVar (pv 4) (nin rfl)) (deVar (pv 1) (nin rfl)) (by first | rfl | exact nomark _)) (dwOr1 (dtCmp (oIn (Room.u65 hr)) (deVar (pv 4) (nin rfl)) (deVar (pv 2) (nin rfl)) (by first | rfl | exact nomark _))))))) (fun _ _ _ _ _ => (deVar (pv 4) (nin rfl))))) daNil) rfl G.n_tuple (by decide +kernel)) (nin rfl) (fun te h => ps_set (i := 3) sc_law_both_right.nd rfl (by first | exact .inl rfl | exact .inr rfl) h))
  (dsCons (dsAsg (deTup (daCons (deCall D_remedies_for.1 hG (hr.mono (by decide)) (takes_of rfl rfl rfl rfl) (agVal (deVar (pv 0) (nin rfl)) (agVal (deVar (pv 1) (nin rfl)) agNil)) rfl) (daCons (deCall D_remedies_for.1 hG (hr.mono (by decide)) (takes_of rfl rfl rfl rfl) (agVal (deVar (pv 0) (nin rfl)) (agVal (deVar (pv 2) (nin rfl)) agNil)) rfl) daNil))) (dgTup rfl (dgCons (dgName (pg_name (i := 5) sc_law_both_right.nd rfl (by first | exact .inl rfl | exact .inr rfl)) (nin rfl)) (dgCons (dgName (pg_name (i := 6) sc_law_both_right.nd rfl (by first | exact .inl rfl | exact .inr rfl)) (nin rfl)) dgNil))))
  (dsOne (dsRet (deCmp (oEq (Room.u64 hr)) (deCall D_remedies_for.1 hG (hr.mono (by decide)) (takes_of rfl rfl rfl rfl) (agVal (deVar (pv 0) (nin rfl)) (agVal (deVar (pv 3) (nin rfl)) agNil)) rfl) (deTy kTup (daCons (deOfF (dfComp rfl sc_law_both_right.nd (diSeq (deVar (pv 5) (nin rfl))) (own := [("r", 7)]) (by show BlkOk ["rig", "one", "two", "both", "x", "first", "second", "r"] (defScope s_law_both_right) _ _; constructor <;> decide +kernel) (nins rfl) (by decide) (fun _ _ _ _ _ => (dgName (pg_name (i := 7) sc_law_both_right.nd rfl (by first | exact .inl rfl | exact .inr rfl)) (nin rfl))) (fun _ _ _ _ _ => (dtsOne (dtCmp (oIn (Room.u65 hr)) (deVar (pv 7) (nin rfl)) (deVar (pv 6) (nin rfl)) (by first | rfl | exact nomark _)))) (fun _ _ _ _ _ => (deVar (pv 7) (nin rfl))))) daNil) rfl G.n_tuple (by decide +kernel)) (by first | rfl | exact nomark _)))))))
theorem sc_law_is_refused : FnScope ["call", "is_lot", "error"] ["call", "is_lot"] (defScope s_law_is_refused) := ⟨rfl, rfl, rfl, by decide +kernel, rfl, by decide +kernel, by decide +kernel⟩
theorem ok_law_is_refused (G : Gs K mg C_BadLot C_BadRig C_Refused) {f : Addr} {cdv : Value} (D : At K mg "_law_is_refused" s_law_is_refused ["call", "is_lot"] f cdv)  {kk : Nat} : DfnT Pg w K mg base T kk "_law_is_refused" 1 f_law_is_refused :=
  dfnTC (N := ["call", "is_lot", "error"]) (body := b_law_is_refused) D sc_law_is_refused rfl (by first | exact Or.inl rfl | exact Or.inr (Or.inl rfl)) (by decide) (by decide) (by decide) fun th ok A outer s H E hG hr TH =>
  (dsCons (dsTry (i := 2) rfl rfl sc_law_is_refused.nd rfl rfl ⟨rfl, by decide, .inl G.x_Refused.choose_spec.gC⟩ (takes_of rfl rfl rfl rfl) (nin rfl) (fun c b A => G.m_Refused c A b)
 (fun W2 pn xe tk2 => (dsOne (dsExpr (TH _ _ _ _ _ tk2))))
 (fun c w a A dd oe pn ok e hm hz hv hok => by
  obtain ⟨TX, EC⟩ := G.err c A (by rw [e]; decide) hm
  exact (dsCons (dsIf (dtOf (deVar (pv 1) (nin rfl))) (dsOne (dsRet (deAnd (deIsE EC hz hv hok (pv 2) ⟨.ref C_BadLot, pe_glob rfl G.x_BadLot.choose_spec.gC rfl, fun z hz => hz⟩ (G.k_BadLot c A hm) rfl G.n_isinstance) (deAnd (deNot (deIsE EC hz hv hok (pv 2) ⟨.ref C_BadRig, pe_glob rfl G.x_BadRig.choose_spec.gC rfl, fun z hz => hz⟩ (G.k_BadRig c A hm) rfl G.n_isinstance)) (deOne (deCmp (oEq (by have z := Room.u64 hr; exact z)) (deB (kRepr hG (by have z := Room.u80 hr; exact z)) (daCons (deWhat TX.choose_spec hz hv hok (pv 2)) daNil) rfl G.n_repr (by decide +kernel)) deStr (by first | rfl | exact nomark _))))))) dsNil)
  (dsOne (dsRet (deAnd (deIsE EC hz hv hok (pv 2) ⟨.ref C_BadRig, pe_glob rfl G.x_BadRig.choose_spec.gC rfl, fun z hz => hz⟩ (G.k_BadRig c A hm) rfl G.n_isinstance) (deAnd (deNot (deIsE EC hz hv hok (pv 2) ⟨.ref C_BadLot, pe_glob rfl G.x_BadLot.choose_spec.gC rfl, fun z hz => hz⟩ (G.k_BadLot c A hm) rfl G.n_isinstance)) (deOne (deCmp (oEq (by have z := Room.u64 hr; exact z)) (deB (kRepr hG (by have z := Room.u80 hr; exact z)) (daCons (deWhat TX.choose_spec hz hv hok (pv 2)) daNil) rfl G.n_repr (by decide +kernel)) deStr (by first | rfl | exact nomark _))))))))))
  (dsOne (dsRet deBl)))
theorem sc_law_odd_right : FnScope ["source", "rig", "n", "odd"] ["source", "rig"] (defScope s_law_odd_right) := ⟨rfl, rfl, rfl, by decide +kernel, rfl, by decide +kernel, by decide +kernel⟩
theorem ok_law_odd_right (G : Gs K mg C_BadLot C_BadRig C_Refused) {f : Addr} {c0 Pt : Addr} (TB : LamX.TabB base mg c0 Pt) (TM : (Pt, lamQ "_law_odd_right") ∈ T) (TU : ∀ p ∈ T, p.1 = Pt → p.2 = lamQ "_law_odd_right") (D : At K mg "_law_odd_right" s_law_odd_right ["source", "rig"] f (.ref c0)) (D_law_one : Good Pg w K mg base T 2 "_law_one" ["source", "things"] f_law_one) (D_law_is_refused : DfnT Pg w K mg base T 9 "_law_is_refused" 1 f_law_is_refused) (D_remedies_for : Good Pg w K mg base T 8 "remedies_for" ["rig", "lot"] f_remedies_for) (D_done : Good Pg w K mg base T 8 "done" ["rig", "lot"] f_done) : Good Pg w K mg base T 11 "_law_odd_right" ["source", "rig"] f_law_odd_right :=
  goodOf (dfnC (N := ["source", "rig", "n", "odd"]) (P := [0]) (body := b_law_odd_right) D sc_law_odd_right (by decide) fun A outer s H E hG hr =>
  (dsCons (dsSet (i := 2) (deIxV (pv 1) deInt (fun _ _ => rfl)) (nin rfl) (fun te h => ps_set (i := 2) sc_law_odd_right.nd rfl (by first | exact .inl rfl | exact .inr rfl) h))
  (dsCons (dsSet (i := 3) (deCall D_law_one.1 hG (hr.mono (by decide)) (takes_of rfl rfl rfl rfl) (agHot (pv 0) (agVal (deLst (daCons deNon (daCons (deTup (daCons (deVar (pv 2) (nin rfl)) daNil)) (daCons (deTup (daCons (deOp oSub deInt deInt) daNil)) (daCons (deTup (daCons deInt (daCons deInt daNil))) (daCons (deTup (daCons deInt (daCons (deVar (pv 2) (nin rfl)) daNil))) (daCons deStr (daCons deInt (daCons (deTup (daCons deStr daNil)) (daCons (deTup (daCons deNon daNil)) (daCons (deTup (daCons deInt (daCons (deOp oSub deInt deInt) daNil))) (daCons (deTup (daCons (deTup (daCons deInt daNil)) daNil)) daNil)))))))))))) agNil)) rfl) (nin rfl) (fun te h => ps_set (i := 3) sc_law_odd_right.nd rfl (by first | exact .inl rfl | exact .inr rfl) h))
  (dsCons (dsIf (dtNot (dtOf (deLam (k := 8) D_law_is_refused rfl rfl hG (hr.mono (by decide)) (takes_of rfl rfl rfl rfl) TB rfl TM TU (LamX.lamS_by (by show LamX.lamSB (defScope s_law_odd_right) _ = true; decide +kernel)) rfl (fun _ _ _ _ _ => rfl) (fun A outer s H E f cd hG2 hr2 => (deCall D_remedies_for.1 hG2 (hr2.mono (by decide)) (takes_of rfl rfl rfl rfl) (agVal (deVar (pv 1) (nin rfl)) (agVal (deVar (pv 3) (nin rfl)) agNil)) rfl)) (caBl caNil) rfl))) (dsOne (dsRet deBl)) dsNil)
  (dsCons (dsIf (dtNot (dtOf (deLam (k := 8) D_law_is_refused rfl rfl hG (hr.mono (by decide)) (takes_of rfl rfl rfl rfl) TB rfl TM TU (LamX.lamS_by (by show LamX.lamSB (defScope s_law_odd_right) _ = true; decide +kernel)) rfl (fun _ _ _ _ _ => rfl) (fun A outer s H E f cd hG2 hr2 => (deCall D_done.1 hG2 (hr2.mono (by decide)) (takes_of rfl rfl rfl rfl) (agVal (deVar (pv 1) (nin rfl)) (agVal (deVar (pv 3) (nin rfl)) agNil)) rfl)) (caBl caNil) rfl))) (dsOne (dsRet deBl)) dsNil)
  (dsOne (dsRet (deLam (k := 8) D_law_is_refused rfl rfl hG (hr.mono (by decide)) (takes_of rfl rfl rfl rfl) TB rfl TM TU (LamX.lamS_by (by show LamX.lamSB (defScope s_law_odd_right) _ = true; decide +kernel)) rfl (fun _ _ _ _ _ => rfl) (fun A outer s H E f cd hG2 hr2 => (deCall D_remedies_for.1 hG2 (hr2.mono (by decide)) (takes_of rfl rfl rfl rfl) (agVal (deCut (deVar (pv 1) (nin rfl)) doNone (doSome deInt)) (agVal (deVar (pv 3) (nin rfl)) agNil)) rfl)) (caBl caNil) rfl))))))))
theorem sc_law : FnScope ["script", "source", "rig", "every", "x", "r", "lots", "turn", "lot"] ["script"] (defScope s_law) := ⟨rfl, rfl, rfl, by decide +kernel, rfl, by decide +kernel, by decide +kernel⟩
theorem ok_law (G : Gs K mg C_BadLot C_BadRig C_Refused) {f : Addr} {cdv : Value} (D : At K mg "law" s_law ["script"] f cdv) (D_law_pool : Good Pg w K mg base T 1 "_law_pool" ["script", "k"] f_law_pool) (D_law_wide_rig : Good Pg w K mg base T 3 "_law_wide_rig" ["source"] f_law_wide_rig) (D_all_faults : Good Pg w K mg base T 7 "all_faults" ["rig"] f_all_faults) (D_remedies_for : Good Pg w K mg base T 8 "remedies_for" ["rig", "lot"] f_remedies_for) (D_law_some : Good Pg w K mg base T 2 "_law_some" ["source", "things"] f_law_some) (D_law_lot_right : Good Pg w K mg base T 9 "_law_lot_right" ["source", "rig", "lot"] f_law_lot_right) (D_law_both_right : Good Pg w K mg base T 9 "_law_both_right" ["rig", "one", "two"] f_law_both_right) (D_law_odd_right : Good Pg w K mg base T 11 "_law_odd_right" ["source", "rig"] f_law_odd_right) (D_done : Good Pg w K mg base T 8 "done" ["rig", "lot"] f_done) (D_law_due_remedies : Good Pg w K mg base T 1 "_law_due_remedies" ["rig", "lot"] f_law_due_remedies) : Good Pg w K mg base T 12 "law" ["script"] f_law :=
  goodOf (dfnC (N := ["script", "source", "rig", "every", "x", "r", "lots", "turn", "lot"]) (P := []) (body := b_law) D sc_law (by decide) fun A outer s H E hG hr =>
  (dsCons (dsSetHot (i := 1) (dfCall D_law_pool.1 hG (hr.mono (by decide)) (takes_of rfl rfl rfl rfl) (agVal (deVar (pv 0) (nin rfl)) (agVal deInt agNil)) rfl) (nin rfl) (fun te h => ps_set (i := 1) sc_law.nd rfl (by first | exact .inl rfl | exact .inr rfl) h))
  (dsCons (dsSet (i := 2) (deCall D_law_wide_rig.1 hG (hr.mono (by decide)) (takes_of rfl rfl rfl rfl) (agHot (pv 1) agNil) rfl) (nin rfl) (fun te h => ps_set (i := 2) sc_law.nd rfl (by first | exact .inl rfl | exact .inr rfl) h))
  (dsCons (dsSet (i := 3) (deTy kTup (daCons (deOfF (dfComp rfl sc_law.nd (diRng1 rfl G.n_range (daCons (deIxV (pv 2) deInt (fun _ _ => rfl)) daNil)) (own := [("x", 4)]) (by show BlkOk ["script", "source", "rig", "every", "x", "r", "lots", "turn", "lot"] (defScope s_law) _ _; constructor <;> decide +kernel) (nins rfl) (by decide) (fun _ _ _ _ _ => (dgName (pg_name (i := 4) sc_law.nd rfl (by first | exact .inl rfl | exact .inr rfl)) (nin rfl))) (fun _ _ _ _ _ => dtsNil) (fun _ _ _ _ _ => (deVar (pv 4) (nin rfl))))) daNil) rfl G.n_tuple (by decide +kernel)) (nin rfl) (fun te h => ps_set (i := 3) sc_law.nd rfl (by first | exact .inl rfl | exact .inr rfl) h))
  (dsCons (dsIf (dtW (dwOr (dtCmp (oNe (Room.u64 hr)) (deB (kRepr hG (Room.u80 hr)) (daCons (deCall D_all_faults.1 hG (hr.mono (by decide)) (takes_of rfl rfl rfl rfl) (agVal (deVar (pv 2) (nin rfl)) agNil) rfl) daNil) rfl G.n_repr (by decide +kernel)) (deB (kRepr hG (Room.u80 hr)) (daCons (deVar (pv 3) (nin rfl)) daNil) rfl G.n_repr (by decide +kernel)) (by first | rfl | exact nomark _)) (dwOr1 (dtCmp (oNe (Room.u64 hr)) (deCall D_remedies_for.1 hG (hr.mono (by decide)) (takes_of rfl rfl rfl rfl) (agVal (deVar (pv 2) (nin rfl)) (agVal (deTup daNil) agNil)) rfl) (deTy kTup (daCons (deOfF (dfComp rfl sc_law.nd (diRng1 rfl G.n_range (daCons (deIxV (pv 2) deInt (fun _ _ => rfl)) daNil)) (own := [("r", 5)]) (by show BlkOk ["script", "source", "rig", "every", "x", "r", "lots", "turn", "lot"] (defScope s_law) _ _; constructor <;> decide +kernel) (nins rfl) (by decide) (fun _ _ _ _ _ => (dgName (pg_name (i := 5) sc_law.nd rfl (by first | exact .inl rfl | exact .inr rfl)) (nin rfl))) (fun _ _ _ _ _ => dtsNil) (fun _ _ _ _ _ => (deVar (pv 5) (nin rfl))))) daNil) rfl G.n_tuple (by decide +kernel)) (by first | rfl | exact nomark _))))) (dsOne (dsRet deBl)) dsNil)
  (dsCons (dsSet (i := 6) (deOp oAdd (deOp oAdd (deLst (daCons (deTup daNil) (daCons (deVar (pv 3) (nin rfl)) daNil))) (deOfF (dfComp rfl sc_law.nd (diSeq (deCut (deVar (pv 3) (nin rfl)) doNone (doSome deInt))) (own := [("x", 4)]) (by show BlkOk ["script", "source", "rig", "every", "x", "r", "lots", "turn", "lot"] (defScope s_law) _ _; constructor <;> decide +kernel) (nins rfl) (by decide) (fun _ _ _ _ _ => (dgName (pg_name (i := 4) sc_law.nd rfl (by first | exact .inl rfl | exact .inr rfl)) (nin rfl))) (fun _ _ _ _ _ => dtsNil) (fun _ _ _ _ _ => (deTup (daCons (deVar (pv 4) (nin rfl)) daNil)))))) (deOfF (dfComp rfl sc_law.nd (diRng1 rfl G.n_range (daCons deInt daNil)) (own := [("turn", 7)]) (by show BlkOk ["script", "source", "rig", "every", "x", "r", "lots", "turn", "lot"] (defScope s_law) _ _; constructor <;> decide +kernel) (nins rfl) (by decide) (fun _ _ _ _ _ => (dgName (pg_name (i := 7) sc_law.nd rfl (by first | exact .inl rfl | exact .inr rfl)) (nin rfl))) (fun _ _ _ _ _ => dtsNil) (fun _ _ _ _ _ => (deTy kTup (daCons (deCall D_law_some.1 hG (hr.mono (by decide)) takes_none5 (agHot (pv 1) (agVal (deVar (pv 3) (nin rfl)) agNil)) rfl) daNil) rfl G.n_tuple (by decide +kernel)))))) (nin rfl) (fun te h => ps_set (i := 6) sc_law.nd rfl (by first | exact .inl rfl | exact .inr rfl) h))
  (dsCons (dsIf (dtCmp (oNe (Room.u64 hr)) (deOfF (dfComp rfl sc_law.nd (diSeq (deVar (pv 6) (nin rfl))) (own := [("lot", 8)]) (by show BlkOk ["script", "source", "rig", "every", "x", "r", "lots", "turn", "lot"] (defScope s_law) _ _; constructor <;> decide +kernel) (nins rfl) (by decide) (fun _ _ _ _ _ => (dgName (pg_name (i := 8) sc_law.nd rfl (by first | exact .inl rfl | exact .inr rfl)) (nin rfl))) (fun _ _ _ _ _ => (dtsOne (dtNot (dtOf (deCall D_law_lot_right.1 hG (hr.mono (by decide)) takes_none5 (agHot (pv 1) (agVal (deVar (pv 2) (nin rfl)) (agVal (deVar (pv 8) (nin rfl)) agNil))) rfl))))) (fun _ _ _ _ _ => (deVar (pv 8) (nin rfl))))) (deLst daNil) (by first | rfl | exact nomark _)) (dsOne (dsRet deBl)) dsNil)
  (dsCons (dsIf (dtW (dwOr (dtNot (dtOf (deCall D_law_both_right.1 hG (hr.mono (by decide)) (takes_of rfl rfl rfl rfl) (agVal (deVar (pv 2) (nin rfl)) (agVal (deIxV (pv 6) (deOp oSub (deLenV (pv 6) rfl G.n_len) deInt) (fun _ _ => rfl)) (agVal (deIxV (pv 6) (deOp oSub (deLenV (pv 6) rfl G.n_len) deInt) (fun _ _ => rfl)) agNil))) rfl))) (dwOr1 (dtNot (dtOf (deCall D_law_odd_right.1 hG (hr.mono (by decide)) (takes_of rfl rfl rfl rfl) (agHot (pv 1) (agVal (deVar (pv 2) (nin rfl)) agNil)) rfl)))))) (dsOne (dsRet deBl)) dsNil)
  (dsOne (dsRet (deCmp (oEq (Room.u64 hr)) (deB (kRepr hG (Room.u80 hr)) (daCons (deCall D_done.1 hG (hr.mono (by decide)) (takes_of rfl rfl rfl rfl) (agVal (deVar (pv 2) (nin rfl)) (agVal (deVar (pv 3) (nin rfl)) agNil)) rfl) daNil) rfl G.n_repr (by decide +kernel)) (deB (kRepr hG (Room.u80 hr)) (daCons (deCmp (oNe (Room.u64 hr)) (deCall D_law_due_remedies.1 hG (hr.mono (by decide)) (takes_of rfl rfl rfl rfl) (agVal (deVar (pv 2) (nin rfl)) (agVal (deVar (pv 3) (nin rfl)) agNil)) rfl) (deTup daNil) (by first | rfl | exact nomark _)) daNil) rfl G.n_repr (by decide +kernel)) (by first | rfl | exact nomark _))))))))))))
end
end K01
set_option maxHeartbeats 1000000
namespace K01
open PySem PySem.Spec Dn
theorem is_number_int (i : Int) : f_is_number [.val (.int i)] = .rt (.cold (.bool true)) [] := rfl
theorem is_number_none : f_is_number [.val .none] = .rt (.cold (.bool false)) [] := rfl
theorem is_number_str (x : Str) : f_is_number [.val (.str x)] = .rt (.cold (.bool false)) [] := rfl
theorem is_number_tup (x : List PyData) : f_is_number [.val (.tuple x)] = .rt (.cold (.bool false)) [] := rfl
theorem is_from_int (n l m : Int) : f_is_from [.val (.int n), .val (.int l), .val (.int m)] = .rt (.cold (.bool (decide (l ≤ n) && decide (n ≤ m)))) [] := by
  by_cases h : l ≤ n <;> by_cases h2 : n ≤ m <;> simp [f_is_from, b_is_from, is_number_int, h, h2]
theorem is_tuple_of_tup (xs : List PyData) (l m : Int) : f_is_tuple_of [.val (.tuple xs), .val (.int l), .val (.int m)] = .rt (.cold (.bool (decide (l ≤ (xs.length : Int)) && decide ((xs.length : Int) ≤ m)))) [] := by
  by_cases h : l ≤ (xs.length : Int) <;> by_cases h2 : (xs.length : Int) ≤ m <;> simp [f_is_tuple_of, b_is_tuple_of, h, h2]
def asc (m : Int) : Int → List Int → Bool
  | _, [] => true
  | a, p :: r => decide (a < p) && (decide (p < m) && asc m p r)
theorem asc_loop (m : Int) (t : PyData) : ∀ (ns : List Int) (a : Int) (x : Option Ent), ∃ r', forL (gNm 3) l_is_ascending_0 (ns.map .int) [some (.val t), some (.val (.int m)), some (.val (.int a)), x] = if asc m a ns then .nx r' else .rt (.cold (.bool false)) r'
  | [], a, x => ⟨_, by simp [asc]; rfl⟩
  | p :: r, a, x => by
    rw [List.map_cons, e_forc]
    by_cases h1 : a < p
    · by_cases h2 : p < m
      · obtain ⟨r', e⟩ := asc_loop m t r p (some (.val (.int p)))
        have st : l_is_ascending_0 [some (.val t), some (.val (.int m)), some (.val (.int a)), some (.val (.int p))] = .nx [some (.val t), some (.val (.int m)), some (.val (.int p)), some (.val (.int p))] := by
          simp [l_is_ascending_0, is_number_int, h1, h2]
        refine ⟨r', ?_⟩
        show (match l_is_ascending_0 [some (.val t), some (.val (.int m)), some (.val (.int a)), some (.val (.int p))] with
          | .nx r2 => _
          | .ct r2 => _
          | .bk r2 => _
          | .rt d r2 => _
          | .ex c w r2 => _
          | .bad => _) = _
        rw [st]
        simpa [asc, h1, h2] using e
      · have st : l_is_ascending_0 [some (.val t), some (.val (.int m)), some (.val (.int a)), some (.val (.int p))] = .rt (.cold (.bool false)) [some (.val t), some (.val (.int m)), some (.val (.int a)), some (.val (.int p))] := by
          simp [l_is_ascending_0, is_number_int, h1, h2]
        exact ⟨_, by simp [st, asc, h2]; rfl⟩
    · have st : l_is_ascending_0 [some (.val t), some (.val (.int m)), some (.val (.int a)), some (.val (.int p))] = .rt (.cold (.bool false)) [some (.val t), some (.val (.int m)), some (.val (.int a)), some (.val (.int p))] := by
        simp [l_is_ascending_0, is_number_int, h1]
      exact ⟨_, by simp [st, asc, h1]; rfl⟩
theorem asc_ints (ns : List Int) (m : Int) : f_is_ascending [.val (.tuple (ns.map .int)), .val (.int m)] = .rt (.cold (.bool (asc m (-1) ns))) [] := by
  obtain ⟨r', e⟩ := asc_loop m (.tuple (ns.map .int)) ns (-1) none
  simp [f_is_ascending, b_is_ascending, e]
  cases asc m (-1) ns <;> simp
theorem asc_none (m : Int) : f_is_ascending [.val .none, .val (.int m)] = .rt (.cold (.bool false)) [] := by
  simp [f_is_ascending, b_is_ascending]
theorem asc_int (i m : Int) : f_is_ascending [.val (.int i), .val (.int m)] = .rt (.cold (.bool false)) [] := by
  simp [f_is_ascending, b_is_ascending]
theorem asc_str (i : Str) (m : Int) : f_is_ascending [.val (.str i), .val (.int m)] = .rt (.cold (.bool false)) [] := by
  simp [f_is_ascending, b_is_ascending]
theorem asc_odd (d : PyData) (m : Int) (h : f_is_number [.val d] = .rt (.cold (.bool false)) []) : f_is_ascending [.val (.tuple [d]), .val (.int m)] = .rt (.cold (.bool false)) [] := by
  simp [f_is_ascending, b_is_ascending, e_forc, l_is_ascending_0, h]
/-! ### rigs of this law -/
structure Rig where
  n : Nat
  q : Nat
  cures : List (List Int)
def cureD (c : List Int) : PyData := .tuple (c.map .int)
def Rig.cd (g : Rig) : PyData := .tuple (g.cures.map cureD)
def Rig.sd (g : Rig) : PyData := .tuple [.tuple (List.replicate g.n (.int 0))]
def Rig.d (g : Rig) : PyData := .tuple [.int g.n, .int g.q, g.cd, g.sd, .tuple []]
structure Rig.ok (g : Rig) : Prop where
  n1 : 1 ≤ g.n
  n2 : g.n ≤ 24
  q1 : 1 ≤ g.q
  q2 : g.q ≤ 16
  len : g.cures.length = g.n
  asc : ∀ c ∈ g.cures, asc g.q (-1) c = true
theorem enumD_at : ∀ (ds : List PyData) (k j : Nat) (d : PyData), (enumD k ds)[j]? = some d → ∃ e, ds[j]? = some e ∧ d = .tuple [.int ((k + j : Nat)), e]
  | [], _, _, _, h => by simp [enumD] at h
  | x :: xs, k, 0, d, h => by
    simp [enumD] at h
    exact ⟨x, rfl, by rw [← h]; rfl⟩
  | x :: xs, k, j + 1, d, h => by
    obtain ⟨e, h1, h2⟩ := enumD_at xs (k + 1) j d (by simpa [enumD] using h)
    refine ⟨e, by simpa using h1, ?_⟩
    rw [h2, show k + 1 + j = k + (j + 1) by omega]
theorem wrong_cures_ok {g : Rig} (ok : g.ok) : f_wrong_cures [.val g.cd, .val (.int g.n), .val (.int g.q)] = .rt (.cold .none) [] := by
  obtain ⟨r', e, x, y, hr⟩ := forL_inv (g := gTp 2 (gCn (gNm 3) (gCn (gNm 4) gN0))) (b := l_wrong_cures_0) (fun _ r => ∃ x y, r = [some (.val g.cd), some (.val (.int g.n)), some (.val (.int g.q)), x, y]) (enumD 0 (g.cures.map cureD)) 0 [some (.val g.cd), some (.val (.int g.n)), some (.val (.int g.q)), none, none] ⟨none, none, rfl⟩
    (fun j d r hd ⟨x, y, hr⟩ => by
      obtain ⟨e, h1, h2⟩ := enumD_at _ _ _ _ hd
      rw [List.getElem?_map] at h1
      obtain ⟨c, hc, rfl⟩ := Option.map_eq_some_iff.mp h1
      have ha := ok.asc c (List.mem_of_getElem? hc)
      subst h2
      subst hr
      refine ⟨[some (.val g.cd), some (.val (.int g.n)), some (.val (.int g.q)), some (.val (.int ((0 + j : Nat)))), some (.val (cureD c))], [some (.val g.cd), some (.val (.int g.n)), some (.val (.int g.q)), some (.val (.int ((0 + j : Nat)))), some (.val (cureD c))], rfl, ?_, _, _, rfl⟩
      simp [l_wrong_cures_0, cureD, asc_ints, ha])
  have hl : ((g.cures.map cureD).length : Int) = g.n := by simp [ok.len]
  simp only [Rig.cd] at *
  simp [f_wrong_cures, b_wrong_cures, is_tuple_of_tup, ok.len, e]
end K01
set_option maxHeartbeats 1000000
namespace K01
open PySem PySem.Spec Dn
theorem boolsRep : ∀ n : Nat, boolsOf (List.replicate n (.bool true)) = some (List.replicate n true)
  | 0 => rfl
  | n + 1 => by
    rw [List.replicate_succ, List.replicate_succ]
    show (boolsOf (List.replicate n (.bool true))).map (true :: ·) = _
    rw [boolsRep n]
    rfl
theorem are_signs_ok (n : Nat) (h : n ≤ 24) : f_are_signs [.val (.tuple (List.replicate n (.int 0))), .val (.int n)] = .rt (.cold (.bool true)) [] := by
  have hc := comp_pure (v := 2) (t := t_are_signs_0) (m := e_are_signs_0) (mi := mIter (mVar 0)) (r := [some (.val (.tuple (List.replicate n (.int 0)))), some (.val (.int n)), none]) (r0 := [some (.val (.tuple (List.replicate n (.int 0)))), some (.val (.int n)), none])
    (ds := List.replicate n (.int 0)) (fun _ => true) (fun _ => .bool true) (by simp) rfl (by simp; omega) (fun d hd => by
      have e := (List.mem_replicate.mp hd).2
      subst e
      exact ⟨by simp [t_are_signs_0], fun _ => by simp [e_are_signs_0, is_from_int]⟩)
  rw [List.filter_eq_self.mpr (fun _ _ => rfl), List.map_replicate] at hc
  simp [f_are_signs, b_are_signs, is_tuple_of_tup, hc, bAll, boolsRep]
theorem wrong_signs_ok {g : Rig} (ok : g.ok) : f_wrong_signs [.val g.sd, .val (.int g.n)] = .rt (.cold .none) [] := by
  have st : l_wrong_signs_0 [some (.val g.sd), some (.val (.int g.n)), some (.val (.int 0)), some (.val (.tuple (List.replicate g.n (.int 0))))] = .nx [some (.val g.sd), some (.val (.int g.n)), some (.val (.int 0)), some (.val (.tuple (List.replicate g.n (.int 0))))] := by
    simp [l_wrong_signs_0, are_signs_ok g.n ok.n2]
  have lp : forL (gTp 2 (gCn (gNm 2) (gCn (gNm 3) gN0))) l_wrong_signs_0 (enumD 0 [.tuple (List.replicate g.n (.int 0))]) [some (.val g.sd), some (.val (.int g.n)), none, none] = .nx [some (.val g.sd), some (.val (.int g.n)), some (.val (.int 0)), some (.val (.tuple (List.replicate g.n (.int 0))))] := by
    show (match l_wrong_signs_0 [some (.val g.sd), some (.val (.int g.n)), some (.val (.int 0)), some (.val (.tuple (List.replicate g.n (.int 0))))] with
          | .nx r2 => _
          | .ct r2 => _
          | .bk r2 => _
          | .rt d r2 => _
          | .ex c w r2 => _
          | .bad => _) = _
    rw [st]
    rfl
  simp only [Rig.sd] at *
  simp [f_wrong_signs, b_wrong_signs, is_tuple_of_tup, lp]
theorem wrong_moves_ok (k : Int) : f_wrong_moves [.val (.tuple []), .val (.int k)] = .rt (.cold .none) [] := by
  simp [f_wrong_moves, b_wrong_moves, is_tuple_of_tup, enumD]
theorem wrong_place_ok {g : Rig} (ok : g.ok) : f_wrong_place [.val g.d] = .rt (.cold .none) [] := by
  have h1 := wrong_cures_ok ok
  have h2 := wrong_signs_ok ok
  have a1 : (1 : Int) ≤ g.n := by have := ok.n1; omega
  have a2 : (g.n : Int) ≤ 24 := by have := ok.n2; omega
  have a3 : (1 : Int) ≤ g.q := by have := ok.q1; omega
  have a4 : (g.q : Int) ≤ 16 := by have := ok.q2; omega
  simp [f_wrong_place, b_wrong_place, Rig.d, is_tuple_of_tup, is_from_int, gTp, gCn, gN0, a1, a2, a3, a4, h1, h2, Rig.sd]
  simp [Rig.sd] at h2
  simp [h2, wrong_moves_ok]
theorem made_rig_ok {g : Rig} (ok : g.ok) : f_made_rig [.val g.d] = .rt (.cold g.d) [] := by
  simp [f_made_rig, b_made_rig, wrong_place_ok ok]
theorem made_rig_four (xs : List PyData) (h : xs.length = 4) : f_made_rig [.val (.tuple xs)] = .ex "BadRig" (.tuple [.int (-1)]) [] := by
  simp [f_made_rig, b_made_rig, f_wrong_place, b_wrong_place, is_tuple_of_tup, h]
theorem rig_n (g : Rig) : fIx g.d (.int 0) = some (.int g.n) := rfl
theorem rig_q (g : Rig) : fIx g.d (.int 1) = some (.int g.q) := rfl
theorem rig_c (g : Rig) : fIx g.d (.int 2) = some g.cd := rfl
def lotD (ls : List Int) : PyData := .tuple (ls.map .int)
theorem check_lot_ok (g : Rig) (ls : List Int) (h : asc g.n (-1) ls = true) : f_check_lot [.val g.d, .val (lotD ls)] = .rt (.cold .none) [] := by
  simp [f_check_lot, b_check_lot, rig_n, lotD, asc_ints, h]
theorem check_lot_bad (g : Rig) (d : PyData) (h : f_is_ascending [.val d, .val (.int g.n)] = .rt (.cold (.bool false)) []) : f_check_lot [.val g.d, .val d] = .ex "BadLot" (.int (-1)) [] := by
  simp [f_check_lot, b_check_lot, rig_n, h]
theorem check_ok {g : Rig} (ok : g.ok) (ls : List Int) (h : asc g.n (-1) ls = true) : f_check_rig_and_lot [.val g.d, .val (lotD ls)] = .rt (.cold .none) [] := by
  simp [f_check_rig_and_lot, b_check_rig_and_lot, made_rig_ok ok, check_lot_ok g ls h]
theorem check_bad {g : Rig} (ok : g.ok) (d : PyData) (h : f_is_ascending [.val d, .val (.int g.n)] = .rt (.cold (.bool false)) []) : f_check_rig_and_lot [.val g.d, .val d] = .ex "BadLot" (.int (-1)) [] := by
  simp [f_check_rig_and_lot, b_check_rig_and_lot, made_rig_ok ok, check_lot_bad g d h]
theorem every_fault_ok {g : Rig} (ok : g.ok) : f_every_fault [.val g.d] = .rt (.cold (.tuple (ranged 0 g.n))) [] := by
  simp [f_every_fault, b_every_fault, rig_n, fRg, show (g.n : Int) ≤ 16777216 by have := ok.n2; omega]
theorem all_faults_ok {g : Rig} (ok : g.ok) : f_all_faults [.val g.d] = .rt (.cold (.tuple (ranged 0 g.n))) [] := by
  simp [f_all_faults, b_all_faults, made_rig_ok ok, every_fault_ok ok]
end K01
set_option maxHeartbeats 1000000
namespace K01
open PySem PySem.Spec Dn L2
def rg (q : Nat) : List Int := (List.range q).map fun (i : Nat) => (i : Int)
theorem ranged_rg (q : Nat) : ranged 0 q = (rg q).map .int := by
  unfold ranged rg
  rw [List.map_map]
  congr 1
  funext i
  simp
theorem canInts : ∀ c : List Int, PyData.canLayAll0 (c.map .int) = true
  | [] => rfl
  | _ :: r => canInts r
theorem depthInts : ∀ c : List Int, PyData.depthAll (c.map .int) = 0
  | [] => rfl
  | _ :: r => by
    show max 0 (PyData.depthAll (r.map .int)) = 0
    rw [depthInts r]
    rfl
theorem shT (c : List Int) : SeqAt.shaped (.tuple (c.map .int)) = true := by
  have h1 : PyData.canLay0 (.tuple (c.map .int)) = true := canInts c
  have h2 : PyData.depth (.tuple (c.map .int)) = 1 := by
    show PyData.depthAll (c.map .int) + 1 = 1
    rw [depthInts]
  unfold SeqAt.shaped
  rw [h1, h2]
  rfl
theorem shL (c : List Int) : SeqAt.shaped (.list (c.map .int)) = true := by
  have h1 : PyData.canLay0 (.list (c.map .int)) = true := canInts c
  have h2 : PyData.depth (.list (c.map .int)) = 1 := by
    show PyData.depthAll (c.map .int) + 1 = 1
    rw [depthInts]
  unfold SeqAt.shaped
  rw [h1, h2]
  rfl
theorem shI (i : Int) : SeqAt.shaped (.int i) = true := rfl
theorem anyInts (r : Int) : ∀ c : List Int, ((c.map PyData.int).any fun z => PyData.eqv z (.int r)) = decide (r ∈ c)
  | [] => by simp
  | p :: c => by
    rw [List.map_cons, List.any_cons, anyInts r c]
    have e : PyData.eqv (.int p) (.int r) = decide (r = p) := by
      show (p == r) = _
      by_cases h : r = p
      · subst h
        simp
      · have h' : ¬ p = r := fun z => h z.symm
        simp [h, h']
    rw [e]
    by_cases h : r = p <;> simp [h]
@[simp] theorem cInT (r : Int) (c : List Int) : cIn (.int r) (.tuple (c.map .int)) = some (decide (r ∈ c)) := by
  show (if SeqAt.shaped (.int r) = true ∧ SeqAt.shaped (.tuple (c.map .int)) = true then some ((c.map PyData.int).any fun z => PyData.eqv z (.int r)) else none) = _
  rw [if_pos ⟨rfl, shT c⟩, anyInts]
@[simp] theorem cInL (r : Int) (c : List Int) : cIn (.int r) (.list (c.map .int)) = some (decide (r ∈ c)) := by
  show (if SeqAt.shaped (.int r) = true ∧ SeqAt.shaped (.list (c.map .int)) = true then some ((c.map PyData.int).any fun z => PyData.eqv z (.int r)) else none) = _
  rw [if_pos ⟨rfl, shL c⟩, anyInts]
@[simp] theorem cNiT (r : Int) (c : List Int) : cNotIn (.int r) (.tuple (c.map .int)) = some (!decide (r ∈ c)) := by
  unfold cNotIn
  rw [cInT]
  rfl
def Rig.cure (g : Rig) (x : Int) : List Int := g.cures.getD x.toNat []
theorem rig_at {g : Rig} (ok : g.ok) {x : Int} (h0 : 0 ≤ x) (h1 : x < g.n) : fIx g.cd (.int x) = some (.tuple ((g.cure x).map .int)) := by
  have hl : x.toNat < g.cures.length := by rw [ok.len]; omega
  have e : (g.cures.map cureD)[x.toNat]? = some (cureD (g.cure x)) := by
    rw [List.getElem?_map, List.getElem?_eq_getElem hl]
    simp [Rig.cure, hl]
  have z := atI_nat e
  have ex : ((x.toNat : Nat) : Int) = x := by omega
  rw [ex] at z
  exact z
def pIn (c : List Int) : PyData → Bool
  | .int r => decide (r ∈ c)
  | _ => false
theorem filt (c : List Int) (L : List Int) : (((L.map PyData.int).filter (pIn c)).map id) = (L.filter fun r => decide (r ∈ c)).map PyData.int := by
  rw [List.map_id, List.filter_map]
  rfl
def IsL (s : Ent) (L : List Int) : Prop := s = .val (.list (L.map .int)) ∨ s = .hot (L.map .int)
theorem common_step {g : Rig} (ok : g.ok) {lot : Option Ent} {x : Int} {L : List Int} {s : Ent} (h0 : 0 ≤ x) (h1 : x < g.n) (hs : IsL s L) (hl : L.length ≤ 16) :
    l_common_remedies_1 [some (.val g.d), lot, some s, some (.val (.int x)), none] = .nx [some (.val g.d), lot, some (.hot ((L.filter fun r => decide (r ∈ g.cure x)).map .int)), some (.val (.int x)), none] := by
  have hc := comp_pure (v := 4) (t := t_common_remedies_0) (m := e_common_remedies_0) (mi := mIter (mVar 2)) (r := [some (.val g.d), lot, some s, some (.val (.int x)), none]) (r0 := [some (.val g.d), lot, some (.val (.list (L.map .int))), some (.val (.int x)), none])
    (ds := L.map .int) (pIn (g.cure x)) id (by rcases hs with rfl | rfl <;> simp) rfl (by simp; omega) (fun d hd => by
      obtain ⟨r, _, rfl⟩ := List.mem_map.mp hd
      exact ⟨by simp [t_common_remedies_0, rig_c, rig_at ok h0 h1, pIn], fun _ => by simp [e_common_remedies_0]⟩)
  rw [filt] at hc
  simp [l_common_remedies_1, hc]
theorem common_loop {g : Rig} (ok : g.ok) (lot : Option Ent) : ∀ (ls L : List Int) (s : Ent) (x0 : Option Ent), (∀ x ∈ ls, 0 ≤ x ∧ x < g.n) → IsL s L → L.length ≤ 16 →
    ∃ s' x', forL (gNm 3) l_common_remedies_1 (ls.map .int) [some (.val g.d), lot, some s, x0, none] = .nx [some (.val g.d), lot, some s', x', none] ∧ IsL s' (L.filter fun r => ls.all fun x => decide (r ∈ g.cure x))
  | [], L, s, x0, _, hs, _ => ⟨s, x0, rfl, by
    have z : (L.filter fun _ => true) = L := List.filter_eq_self.mpr (fun _ _ => rfl)
    simp only [List.all_nil]
    rw [z]
    exact hs⟩
  | x :: ls, L, s, x0, hx, hs, hl => by
    obtain ⟨h0, h1⟩ := hx x List.mem_cons_self
    have st := common_step ok (lot := lot) h0 h1 hs hl
    obtain ⟨s', x', e, h⟩ := common_loop ok lot ls (L.filter fun r => decide (r ∈ g.cure x)) (.hot ((L.filter fun r => decide (r ∈ g.cure x)).map .int)) (some (.val (.int x))) (fun y hy => hx y (List.mem_cons_of_mem _ hy)) (.inr rfl) (Nat.le_trans (List.length_filter_le _ _) hl)
    refine ⟨s', x', ?_, ?_⟩
    · rw [List.map_cons, e_forc]
      show (match l_common_remedies_1 [some (.val g.d), lot, some s, some (.val (.int x)), none] with
          | .nx r2 => _
          | .ct r2 => _
          | .bk r2 => _
          | .rt d r2 => _
          | .ex c w r2 => _
          | .bad => _) = _
      rw [st]
      exact e
    · rw [List.filter_filter] at h
      simpa [List.all_cons, Bool.and_comm] using h
def rem (g : Rig) (ls : List Int) : List Int := (rg g.q).filter fun r => ls.all fun x => decide (r ∈ g.cure x)
theorem rg_len (q : Nat) : (rg q).length = q := by simp [rg]
theorem common_ok {g : Rig} (ok : g.ok) (ls : List Int) (hx : ∀ x ∈ ls, 0 ≤ x ∧ x < g.n) : f_common_remedies [.val g.d, .val (lotD ls)] = .rt (.cold (.tuple ((rem g ls).map .int))) [] := by
  obtain ⟨s', x', e, h⟩ := common_loop ok (some (.val (lotD ls))) ls (rg g.q) (.val (.list ((rg g.q).map .int))) none hx (.inl rfl) (by rw [rg_len]; exact ok.q2)
  have hq : (g.q : Int) ≤ 16777216 := by have := ok.q2; omega
  have e' := e
  simp only [lotD] at e'
  rcases h with rfl | rfl <;> simp [f_common_remedies, b_common_remedies, rig_q, fRg, hq, ranged_rg, lotD, e', bTup, rem]
theorem asc_mem {m : Int} : ∀ {ls : List Int} {a : Int}, asc m a ls = true → ∀ x ∈ ls, a < x ∧ x < m
  | [], _, _, _, hx => by cases hx
  | p :: r, a, h, x, hx => by
    simp only [asc, Bool.and_eq_true, decide_eq_true_eq] at h
    rcases List.mem_cons.mp hx with rfl | hx
    · exact ⟨h.1, h.2.1⟩
    · obtain ⟨h1, h2⟩ := asc_mem h.2.2 x hx
      exact ⟨by omega, h2⟩
theorem lot_in {g : Rig} {ls : List Int} (h : asc g.n (-1) ls = true) : ∀ x ∈ ls, 0 ≤ x ∧ x < g.n := fun x hx => by
  obtain ⟨h1, h2⟩ := asc_mem h x hx
  exact ⟨by omega, h2⟩
theorem remedies_ok {g : Rig} (ok : g.ok) (ls : List Int) (h : asc g.n (-1) ls = true) : f_remedies_for [.val g.d, .val (lotD ls)] = .rt (.cold (.tuple ((rem g ls).map .int))) [] := by
  simp [f_remedies_for, b_remedies_for, check_ok ok ls h, common_ok ok ls (lot_in h)]
theorem remedies_bad {g : Rig} (ok : g.ok) (d : PyData) (h : f_is_ascending [.val d, .val (.int g.n)] = .rt (.cold (.bool false)) []) : f_remedies_for [.val g.d, .val d] = .ex "BadLot" (.int (-1)) [] := by
  simp [f_remedies_for, b_remedies_for, check_bad ok d h]
theorem done_ok {g : Rig} (ok : g.ok) (ls : List Int) (h : asc g.n (-1) ls = true) : f_done [.val g.d, .val (lotD ls)] = .rt (.cold (.bool (decide (0 < (rem g ls).length)))) [] := by
  simp [f_done, b_done, check_ok ok ls h, common_ok ok ls (lot_in h)]
theorem done_bad {g : Rig} (ok : g.ok) (d : PyData) (h : f_is_ascending [.val d, .val (.int g.n)] = .rt (.cold (.bool false)) []) : f_done [.val g.d, .val d] = .ex "BadLot" (.int (-1)) [] := by
  simp [f_done, b_done, check_bad ok d h]
end K01
set_option maxHeartbeats 1000000
namespace K01
open PySem PySem.Spec Dn L2
@[simp] theorem fIx0 (x : PyData) (xs : List PyData) : fIx (.list (x :: xs)) (.int 0) = some x := by
  have z := atI_nat (xs := x :: xs) (j := 0) rfl
  exact z
@[simp] theorem fIx1 (x y : PyData) (xs : List PyData) : fIx (.list (x :: y :: xs)) (.int 1) = some y := by
  have z := atI_nat (xs := x :: y :: xs) (j := 1) rfl
  exact z
@[simp] theorem ix20 : ixN 2 0 = some 0 := by decide
@[simp] theorem ix21 : ixN 2 1 = some 1 := by decide
@[simp] theorem fAddI (i j : Int) : fAdd (.int i) (.int j) = some (.int (i + j)) := rfl
@[simp] theorem fSubI (i j : Int) : fSub (.int i) (.int j) = some (.int (i - j)) := rfl
theorem fMulR (i j : Int) (h : -(2 ^ 64) < j ∧ j < 2 ^ 64) : fMul (.int i) (.int j) = some (.int (i * j)) := if_pos (.inr h)
theorem fModI (i j : Int) (h : j ≠ 0) : fMod (.int i) (.int j) = some (.int (i.fmod j)) := if_pos h
theorem fDivI (i j : Int) (h : j ≠ 0 ∧ j.natAbs < 1073741824) : fDiv (.int i) (.int j) = some (.int (i.fdiv j)) := if_pos h
@[simp] theorem bIntI (i : Int) : bInt [.int i] = some (.int i) := rfl
@[simp] theorem bIntB (k : Bool) : bInt [.bool k] = some (.int (if k then 1 else 0)) := rfl
@[simp] theorem bMaxI (i j : Int) : bMax [.int i, .int j] = some (.int (if j > i then j else i)) := rfl
structure Inv (a b : Int) : Prop where
  a0 : 0 ≤ a
  b0 : 0 ≤ b
  b1 : b < 2147483647
abbrev src (a b : Int) : List PyData := [.int a, .int b]
theorem modM (x : Int) : fMod (.int x) (.int 2147483647) = some (.int (x.fmod 2147483647)) := fModI _ _ (by decide)
theorem modN (x : Int) : fMod (.int x) (.int 2147483629) = some (.int (x.fmod 2147483629)) := fModI _ _ (by decide)
theorem mulA (x : Int) : fMul (.int x) (.int 39373) = some (.int (x * 39373)) := fMulR _ _ (by decide)
theorem mulB (x : Int) : fMul (.int x) (.int 48271) = some (.int (x * 48271)) := fMulR _ _ (by decide)
theorem mul0 (x : Int) : fMul (.int x) (.int 0) = some (.int (x * 0)) := fMulR _ _ (by decide)
theorem div32 (x : Int) : fDiv (.int x) (.int 32) = some (.int (x.fdiv 32)) := fDivI _ _ (by decide)
theorem pow18 : fPow (.int 10) (.int 18) = some (.int 1000000000000000000) := by
  simp only [fPow]
  rw [if_pos (by decide)]
  rfl
theorem take_ok {a b top : Int} (I : Inv a b) (h1 : 1 ≤ top) (h2 : top < 1073741824) : ∃ t a' b', Inv a' b' ∧ 0 ≤ t ∧ t < top ∧ f_law_take [.hot (src a b), .val (.int top)] = .rt (.cold (.int t)) [src a' b'] := by
  have ht : top ≠ 0 := by omega
  have mt : ∀ x, fMod (.int x) (.int top) = some (.int (x.fmod top)) := fun x => fModI _ _ ht
  by_cases ha : 0 < a
  · refine ⟨a.fmod top, a.fdiv top, b, ⟨Int.fdiv_nonneg I.a0 (by omega), I.b0, I.b1⟩, Int.fmod_nonneg_of_pos _ (by omega), Int.fmod_lt_of_pos _ (by omega), ?_⟩
    have dt : fDiv (.int a) (.int top) = some (.int (a.fdiv top)) := fDivI _ _ ⟨ht, by omega⟩
    simp [f_law_take, b_law_take, src, ha, mt, dt]
  · have p0 : 0 ≤ (b * 39373 + 7).fmod 2147483647 := Int.fmod_nonneg_of_pos _ (by decide)
    have p1 : (b * 39373 + 7).fmod 2147483647 < 2147483647 := Int.fmod_lt_of_pos _ (by decide)
    generalize eb : (b * 39373 + 7).fmod 2147483647 = c at p0 p1
    have mc : fMul (.int c) (.int c) = some (.int (c * c)) := fMulR _ _ ⟨by omega, by omega⟩
    refine ⟨(((c * c).fmod 2147483629).fdiv 32).fmod top, a, c, ⟨I.a0, p0, p1⟩, Int.fmod_nonneg_of_pos _ (by omega), Int.fmod_lt_of_pos _ (by omega), ?_⟩
    simp [f_law_take, b_law_take, src, ha, mt, modM, modN, mulA, div32, eb, mc]
theorem one_ok {a b : Int} (I : Inv a b) (ds : List PyData) (h1 : 1 ≤ ds.length) (h2 : ds.length < 1073741824) : ∃ a' b' d, Inv a' b' ∧ d ∈ ds ∧ f_law_one [.hot (src a b), .val (.list ds)] = .rt (.cold d) [src a' b'] := by
  obtain ⟨t, a', b', I', t0, t1, e⟩ := take_ok I (top := (ds.length : Int)) (by omega) (by omega)
  have hl : t.toNat < ds.length := by omega
  have z := atI_nat (List.getElem?_eq_getElem hl)
  have ex : ((t.toNat : Nat) : Int) = t := by omega
  rw [ex] at z
  have z' : fIx (.list ds) (.int t) = some ds[t.toNat] := z
  refine ⟨a', b', ds[t.toNat], I', List.getElem_mem hl, ?_⟩
  simp [f_law_one, b_law_one, e, z']
theorem some_ok {a b : Int} (I : Inv a b) (thing : PyData) (xs : List Int) (hi : items thing = some (xs.map .int)) (hl : xs.length < 1000) : ∃ (a' b' : Int) (ys : List Int), Inv a' b' ∧ ys.Sublist xs ∧ f_law_some [.hot (src a b), .val thing] = .rt (.cold (.list (ys.map .int))) [src a' b'] := by
  obtain ⟨acc, r', e, a', b', ys, x', I', hr, hacc, hsub⟩ := compL_inv (g := gNm 2) (t := t_law_some_0) (m := e_law_some_0) (vs := [2])
    (fun k acc r => ∃ (a b : Int) (ys : List Int) (x : Option Ent), Inv a b ∧ r = [some (.hot (src a b)), some (.val thing), x] ∧ acc = ys.map PyData.int ∧ ys.Sublist (xs.take k)) (xs.map .int) [] 0 [some (.hot (src a b)), some (.val thing), none]
    ⟨a, b, [], none, I, rfl, rfl, List.nil_sublist _⟩ (by simp; omega) (fun j d acc r hd ⟨a, b, ys, x, I, hr, hacc, hsub⟩ => by
      subst hr
      subst hacc
      rw [List.getElem?_map] at hd
      obtain ⟨i, hj, rfl⟩ := Option.map_eq_some_iff.mp hd
      obtain ⟨t, a', b', I', t0, t1, e⟩ := take_ok I (top := 2) (by omega) (by omega)
      have grow : xs.take (0 + j + 1) = xs.take (0 + j) ++ [i] := by
        rw [Nat.zero_add, List.take_add_one, hj]
        rfl
      have tt : t_law_some_0 [some (.hot (src a b)), some (.val thing), some (.val (.int i))] = .ok (decide (t = 1)) [some (.hot (src a' b')), some (.val thing), some (.val (.int i))] := by
        have ce : cEq (.int t) (.int 1) = some (decide (t = 1)) := by
          show some (t == 1) = _
          rfl
        simp [t_law_some_0, e, ce]
      refine ⟨[some (.hot (src a b)), some (.val thing), some (.val (.int i))], [some (.hot (src a' b')), some (.val thing), some (.val (.int i))], rfl, ?_⟩
      by_cases h : t = 1
      · refine .inr ⟨.int i, [some (.hot (src a' b')), some (.val thing), some (.val (.int i))], by rw [tt, decide_eq_true h], by simp [e_law_some_0], a', b', ys ++ [i], _, I', rfl, by simp, ?_⟩
        rw [grow]
        exact hsub.append (List.Sublist.refl _)
      · refine .inl ⟨by rw [tt, decide_eq_false h], a', b', ys, _, I', rfl, rfl, ?_⟩
        rw [grow]
        exact hsub.trans (List.sublist_append_left _ _))
  subst hr
  subst hacc
  have hs : ys.Sublist xs := hsub.trans (List.take_sublist _ _)
  refine ⟨a', b', ys, I', hs, ?_⟩
  simp [f_law_some, b_law_some, e_comp, hi, e]
theorem pool_ok (ns : List Int) (hl : ns.length ≤ 63) : ∃ a b, Inv a b ∧ f_law_pool [.val (intsD ns), .val (.int 0)] = .rt (.fresh (src a b)) [] := by
  cases ns with
  | nil =>
    refine ⟨0, ((0 : Int).fmod 2147483629 + 7919 * 0 * 0 + 31 * 0 + 17) * 48271 |>.fmod 2147483647, ⟨by decide, by decide, by decide⟩, ?_⟩
    have ne : cNe (.list []) (.list []) = some false := by decide
    simp [f_law_pool, b_law_pool, intsD, ne, modM, modN, mulB, mul0, pow18, src]
  | cons c r =>
    have hb : 0 ≤ (if -1 - c > c then -1 - c else c) := by split <;> omega
    generalize eb : (if -1 - c > c then -1 - c else c) = big at hb
    have m2 : fMul (.int big) (.int (if 1000000000000000000 ≤ big then 1 else 0)) = some (.int (big * (if 1000000000000000000 ≤ big then 1 else 0))) := fMulR _ _ (by split <;> decide)
    refine ⟨big * (if 1000000000000000000 ≤ big then 1 else 0), ((big.fmod 2147483629 + 7919 * 0 * 0 + 31 * 0 + 17) * 48271).fmod 2147483647, ⟨by split <;> omega, Int.fmod_nonneg_of_pos _ (by decide), Int.fmod_lt_of_pos _ (by decide)⟩, ?_⟩
    have h0 : (0 : Int) < (r.length : Int) + 1 := by omega
    by_cases hg : 1000000000000000000 ≤ big
    · have m1 : fMul (.int big) (.int 1) = some (.int (big * 1)) := fMulR _ _ (by decide)
      simp [f_law_pool, b_law_pool, intsD, modM, modN, mulB, mul0, pow18, src, h0, eb, hg, m1]
    · simp [f_law_pool, b_law_pool, intsD, modM, modN, mulB, mul0, pow18, src, h0, eb, hg]
end K01
set_option maxHeartbeats 1000000
namespace K01
open PySem PySem.Spec Dn L2
theorem asc_low {m : Int} : ∀ {xs : List Int} {a p : Int}, a ≤ p → asc m p xs = true → asc m a xs = true
  | [], _, _, _, _ => rfl
  | x :: r, a, p, h, e => by
    simp only [asc, Bool.and_eq_true, decide_eq_true_eq] at e ⊢
    exact ⟨by omega, e.2⟩
theorem asc_sub {m : Int} : ∀ {ys xs : List Int} {a : Int}, ys.Sublist xs → asc m a xs = true → asc m a ys = true
  | _, _, _, .slnil, _ => rfl
  | _, _, a, .cons x h, e => by
    simp only [asc, Bool.and_eq_true, decide_eq_true_eq] at e
    exact asc_sub h (asc_low (Int.le_of_lt e.1) e.2.2)
  | _, _, a, .cons₂ x h, e => by
    simp only [asc, Bool.and_eq_true, decide_eq_true_eq] at e ⊢
    exact ⟨e.1, e.2.1, asc_sub h e.2.2⟩
theorem asc_range (m : Int) : ∀ (k s : Nat) (a : Int), a < s → ((s + k : Nat) : Int) ≤ m → asc m a ((List.range' s k).map fun (i : Nat) => (i : Int)) = true
  | 0, _, _, _, _ => rfl
  | k + 1, s, a, h1, h2 => by
    rw [List.range'_succ, List.map_cons]
    simp only [asc, Bool.and_eq_true, decide_eq_true_eq]
    refine ⟨h1, by omega, asc_range m k (s + 1) s (by omega) (by omega)⟩
theorem asc_rg (q : Nat) (a : Int) (h : a < 0) : asc q a (rg q) = true := by
  unfold rg
  rw [List.range_eq_range']
  exact asc_range q q 0 a (by omega) (by omega)
theorem rng1_ok (q : Nat) (h : q ≤ 1000) : rng1 [.int q] = some ((rg q).map .int) := by
  simp only [rng1]
  rw [if_pos (by omega), ranged_rg]
  simp
theorem filt_all (L : List Int) : (((L.map PyData.int).filter fun _ => true).map id) = L.map PyData.int := by
  rw [List.map_id, List.filter_eq_self.mpr (fun _ _ => rfl)]
theorem rngV {i : Nat} {r : Rho} {q : Nat} (h : r[i]? = some (some (.val (.int q)))) (hq : q ≤ 1000) : mRng rng1 (mCons (mVar i) mNil) r = .ok ((rg q).map .int) r := by
  have e : mCons (mVar i) mNil r = .ok [.int q] r := by simp [h]
  unfold mRng
  rw [e_bind, e]
  show Mi.opt (rng1 [.int q]) r = _
  rw [rng1_ok q hq]
  rfl
theorem stepA {mi : Mi (List PyData)} {t : Mi Bool} {e : Mi PyData} {a b a1 b1 : Int} {n q C x s : Option Ent} {L ys : List PyData} (hc1 : mComp mi (gNm 6) t e [6] [some (.hot (src a b)), n, q, C, x, s, none] = .ok L [some (.hot (src a b)), n, q, C, x, s, none])
    (e1 : f_law_some [.hot (src a b), .val (.list L)] = .rt (.cold (.list ys)) [src a1 b1]) :
    sSet 5 (mCall f_law_some (aHot 0 (aVal (mOfF (mComp mi (gNm 6) t e [6])) aNil))) [some (.hot (src a b)), n, q, C, x, s, none] = .nx [some (.hot (src a1 b1)), n, q, C, x, some (.val (.list ys)), none] := by
  simp [hc1, e1]
theorem stepB {mi : Mi (List PyData)} {t : Mi Bool} {e : Mi PyData} {a1 b1 a2 b2 a3 b3 tt q : Int} {n C x : Option Ent} {L ys c : List PyData} (hc2 : mComp mi (gNm 6) t e [6] [some (.hot (src a1 b1)), n, some (.val (.int q)), C, x, some (.val (.list ys)), none] = .ok L [some (.hot (src a1 b1)), n, some (.val (.int q)), C, x, some (.val (.list ys)), none])
    (e2 : f_law_take [.hot (src a1 b1), .val (.int q)] = .rt (.cold (.int tt)) [src a2 b2]) (e3 : f_law_one [.hot (src a2 b2), .val (.list [.list ys, .list ys, .list [], .list L, .list [.int tt]])] = .rt (.cold (.list c)) [src a3 b3]) :
    mBlt bTup (mCons (mCall f_law_one (aHot 0 (aVal (mLst (mCons (mVar 5) (mCons (mVar 5) (mCons (mLst mNil) (mCons (mOfF (mComp mi (gNm 6) t e [6])) (mCons (mLst (mCons (mCall f_law_take (aHot 0 (aVal (mVar 2) aNil))) mNil)) mNil)))))) aNil))) mNil) [some (.hot (src a1 b1)), n, some (.val (.int q)), C, x, some (.val (.list ys)), none] = .ok (.tuple c) [some (.hot (src a3 b3)), n, some (.val (.int q)), C, x, some (.val (.list ys)), none] := by
  simp [hc2, e2, e3, bTup]
theorem wide_step {a b : Int} (I : Inv a b) (n q : Nat) (cs : List (List Int)) (x s : Option Ent) (q1 : 1 ≤ q) (q2 : q ≤ 16) (hc : cs.length ≤ 24) :
    ∃ a' b' s' c, Inv a' b' ∧ asc q (-1) c = true ∧ l_law_wide_rig_2 [some (.hot (src a b)), some (.val (.int n)), some (.val (.int q)), some (.hot (cs.map cureD)), x, s, none] = .nx [some (.hot (src a' b')), some (.val (.int n)), some (.val (.int q)), some (.hot ((cs ++ [c]).map cureD)), x, s', none] := by
  have hc1 := comp_pure (v := 6) (t := t_law_wide_rig_0) (m := e_law_wide_rig_0) (mi := mRng rng1 (mCons (mVar 2) mNil)) (r := [some (.hot (src a b)), some (.val (.int n)), some (.val (.int q)), some (.hot (cs.map cureD)), x, s, none]) (r0 := [some (.hot (src a b)), some (.val (.int n)), some (.val (.int q)), some (.hot (cs.map cureD)), x, s, none])
    (ds := (rg q).map .int) (fun _ => true) id (rngV rfl (by omega)) rfl (by simp [rg_len]; omega) (fun d _ => ⟨by simp [t_law_wide_rig_0], fun _ => by simp [e_law_wide_rig_0]⟩)
  rw [filt_all] at hc1
  obtain ⟨a1, b1, ys, I1, hsub, e1⟩ := some_ok I (.list ((rg q).map .int)) (rg q) rfl (by rw [rg_len]; omega)
  have hc2 := comp_pure (v := 6) (t := t_law_wide_rig_1) (m := e_law_wide_rig_1) (mi := mRng rng1 (mCons (mVar 2) mNil)) (r := [some (.hot (src a1 b1)), some (.val (.int n)), some (.val (.int q)), some (.hot (cs.map cureD)), x, some (.val (.list (ys.map .int))), none]) (r0 := [some (.hot (src a1 b1)), some (.val (.int n)), some (.val (.int q)), some (.hot (cs.map cureD)), x, some (.val (.list (ys.map .int))), none])
    (ds := (rg q).map .int) (fun _ => true) id (rngV rfl (by omega)) rfl (by simp [rg_len]; omega) (fun d _ => ⟨by simp [t_law_wide_rig_1], fun _ => by simp [e_law_wide_rig_1]⟩)
  rw [filt_all] at hc2
  obtain ⟨t, a2, b2, I2, t0, t1, e2⟩ := take_ok I1 (top := (q : Int)) (by omega) (by omega)
  obtain ⟨a3, b3, d, I3, hd, e3⟩ := one_ok I2 [.list (ys.map .int), .list (ys.map .int), .list [], .list ((rg q).map .int), .list [.int t]] (by simp) (by simp)
  have hm : ∃ c : List Int, d = .list (c.map .int) ∧ asc q (-1) c = true := by
    have ay : asc q (-1) ys = true := asc_sub hsub (asc_rg q (-1) (by decide))
    simp only [List.mem_cons, List.not_mem_nil, or_false] at hd
    rcases hd with rfl | rfl | rfl | rfl | rfl
    · exact ⟨ys, rfl, ay⟩
    · exact ⟨ys, rfl, ay⟩
    · exact ⟨[], rfl, rfl⟩
    · exact ⟨rg q, rfl, asc_rg q (-1) (by decide)⟩
    · refine ⟨[t], rfl, ?_⟩
      simp only [asc, Bool.and_eq_true, decide_eq_true_eq, and_true]
      omega
  obtain ⟨c, rfl, hac⟩ := hm
  refine ⟨a3, b3, some (.val (.list (ys.map .int))), c, I3, hac, ?_⟩
  have hcl : cs.length < 16777216 := by omega
  unfold l_law_wide_rig_2
  rw [e_sSeq, stepA hc1 e1]
  simp only
  rw [sApp_ok (d := cureD c) (xs := cs.map cureD) (ys := cs.map cureD) rfl (stepB hc2 e2 e3) rfl (by rw [List.length_map]; exact hcl)]
  rw [List.map_append]
  rfl
theorem seqNx {s u : Rho → Fl} {r r1 : Rho} (h : s r = .nx r1) : sSeq s u r = u r1 := by rw [e_sSeq, h]
theorem forS {mi : Mi (List PyData)} {g : PyData → Rho → Option Rho} {b : Rho → Fl} {r r0 r' : Rho} {ds : List PyData} (h : mi r = .ok ds r0) (lp : forL g b ds r0 = .nx r') : sFor mi g b r = .nx r' := by
  rw [e_for, e_sBind, h]
  exact lp
theorem wide_ok {a b : Int} (I : Inv a b) : ∃ a' b' g, Inv a' b' ∧ Rig.ok g ∧ f_law_wide_rig [.hot (src a b)] = .rt (.cold g.d) [src a' b'] := by
  obtain ⟨t1, a1, b1, I1, x1, y1, e1⟩ := take_ok I (top := 7) (by decide) (by decide)
  obtain ⟨t2, a2, b2, I2, x2, y2, e2⟩ := take_ok I1 (top := 8) (by decide) (by decide)
  obtain ⟨a3, b3, d, I3, hd, e3⟩ := one_ok I2 [.int (2 + t1), .int (1 + t2), .int 24] (by simp) (by simp)
  obtain ⟨n, rfl, n1, n2⟩ : ∃ n : Nat, d = .int n ∧ 1 ≤ n ∧ n ≤ 24 := by
    simp only [List.mem_cons, List.not_mem_nil, or_false] at hd
    rcases hd with rfl | rfl | rfl
    · exact ⟨(2 + t1).toNat, by congr 1; omega, by omega, by omega⟩
    · exact ⟨(1 + t2).toNat, by congr 1; omega, by omega, by omega⟩
    · exact ⟨24, rfl, by omega, by omega⟩
  obtain ⟨t4, a4, b4, I4, x4, y4, e4⟩ := take_ok I3 (top := 16) (by decide) (by decide)
  obtain ⟨a5, b5, d, I5, hd, e5⟩ := one_ok I4 [.int 2, .int 3, .int 16, .int (1 + t4)] (by simp) (by simp)
  obtain ⟨q, rfl, q1, q2⟩ : ∃ n : Nat, d = .int n ∧ 1 ≤ n ∧ n ≤ 16 := by
    simp only [List.mem_cons, List.not_mem_nil, or_false] at hd
    rcases hd with rfl | rfl | rfl | rfl
    · exact ⟨2, rfl, by omega, by omega⟩
    · exact ⟨3, rfl, by omega, by omega⟩
    · exact ⟨16, rfl, by omega, by omega⟩
    · exact ⟨(1 + t4).toNat, by congr 1; omega, by omega, by omega⟩
  obtain ⟨r', lp, a6, b6, cs, x, s, I6, hr, hlen, hasc⟩ := forL_inv (g := gNm 4) (b := l_law_wide_rig_2)
    (fun k r => ∃ (a b : Int) (cs : List (List Int)) (x s : Option Ent), Inv a b ∧ r = [some (.hot (src a b)), some (.val (.int n)), some (.val (.int q)), some (.hot (cs.map cureD)), x, s, none] ∧ cs.length = min k n ∧ ∀ c ∈ cs, asc q (-1) c = true)
    ((rg n).map .int) 0 [some (.hot (src a5 b5)), some (.val (.int n)), some (.val (.int q)), some (.hot []), none, none, none] ⟨a5, b5, [], none, none, I5, rfl, by simp, fun c hc => by cases hc⟩
    (fun j d r hd ⟨a, b, cs, x, s, I, hr, hlen, hasc⟩ => by
      subst hr
      have hj : j < n := by
        have z := (List.getElem?_eq_some_iff.mp hd).1
        simpa [rg_len] using z
      obtain ⟨a', b', s', c, I', hac, e⟩ := wide_step I n q cs (some (.val d)) s q1 q2 (by omega)
      refine ⟨_, _, rfl, e, a', b', cs ++ [c], _, s', I', rfl, by simp; omega, fun c' hc' => ?_⟩
      rcases List.mem_append.mp hc' with z | z
      · exact hasc c' z
      · rw [List.mem_singleton.mp z]
        exact hac)
  subst hr
  have hcn : cs.length = n := by
    rw [hlen]
    simp [rg_len]
  refine ⟨a6, b6, ⟨n, q, cs⟩, I6, ⟨n1, n2, q1, q2, hcn, hasc⟩, ?_⟩
  have hz : fMul (.tuple [.int 0]) (.int n) = some (.tuple (List.replicate n (.int 0))) := by
    have z : fMul (.tuple [.int 0]) (.int (n : Int)) = some (.tuple (List.replicate (n : Int).toNat [PyData.int 0]).flatten) := if_pos ⟨by simp, by omega, by omega, by simp⟩
    rw [z]
    simp
  have hb : b_law_wide_rig [some (.hot (src a b)), none, none, none, none, none, none] = .rt (.cold (Rig.d ⟨n, q, cs⟩)) [some (.hot (src a6 b6)), some (.val (.int n)), some (.val (.int q)), some (.val (.list (cs.map cureD))), x, s, none] := by
    unfold b_law_wide_rig
    refine (seqNx (r1 := [some (.hot (src a3 b3)), some (.val (.int n)), none, none, none, none, none]) (by simp [e1, e2, e3])).trans ?_
    refine (seqNx (r1 := [some (.hot (src a5 b5)), some (.val (.int n)), some (.val (.int q)), some (.hot []), none, none, none]) (by simp [e4, e5])).trans ?_
    refine (seqNx (forS (rngV rfl (by omega)) lp)).trans ?_
    simp [hz, bTup, Rig.d, Rig.cd, Rig.sd]
  simp [f_law_wide_rig, hb]
end K01
set_option maxHeartbeats 1000000
namespace K01
open PySem PySem.Spec Dn L2
/-! ### what is shown -/
theorem okApp (x y : Str) : PyData.strOk (x ++ y) = (PyData.strOk x && PyData.strOk y) := by
  show ((x.cps ++ y.cps).all (· < 0x110000)) = _
  rw [Array.all_append]
  rfl
theorem okJoin : ∀ ts : List Str, ts.all PyData.strOk = true → PyData.strOk (Str.join ", " ts) = true
  | [], _ => by decide +kernel
  | [x], h => by
    have e : Str.join ", " [x] = x := rfl
    rw [e]
    simpa using h
  | x :: y :: r, h => by
    have e : Str.join ", " (x :: y :: r) = x ++ ", " ++ Str.join ", " (y :: r) := rfl
    rw [List.all_cons, Bool.and_eq_true] at h
    rw [e, okApp, okApp, h.1, okJoin (y :: r) h.2]
    decide +kernel
theorem smallShown : ∀ k : Nat, k < 40 → PyData.strOk (PyData.shown (.int (k : Int))) = true ∧ (PyData.shown (.int (k : Int))).length ≤ 2 ∧ ((k : Int).natAbs.log2 < 1920) := by
  decide +kernel
theorem smallI {i : Int} (h0 : 0 ≤ i) (h1 : i < 40) : PyData.strOk (PyData.shown (.int i)) = true ∧ (PyData.shown (.int i)).length ≤ 2 ∧ i.natAbs.log2 < 1920 := by
  have z := smallShown i.toNat (by omega)
  have e : ((i.toNat : Nat) : Int) = i := by omega
  rw [e] at z
  exact z
structure Sm (ks : List Int) : Prop where
  in' : ∀ k ∈ ks, 0 ≤ k ∧ k < 40
  len : ks.length ≤ 100
theorem okAll : ∀ {ks : List Int}, (∀ k ∈ ks, 0 ≤ k ∧ k < 40) → (PyData.shownAll (ks.map .int)).all PyData.strOk = true
  | [], _ => rfl
  | k :: r, h => by
    rw [List.map_cons, PyData.shownAll_cons, List.all_cons, (smallI (h k List.mem_cons_self).1 (h k List.mem_cons_self).2).1, okAll fun x hx => h x (List.mem_cons_of_mem _ hx)]
    rfl
theorem okShown {ks : List Int} (h : Sm ks) : PyData.strOk (PyData.shown (.tuple (ks.map .int))) = true := by
  rw [PyData.shown_tuple, okApp, okApp, okJoin _ (okAll h.in')]
  have e1 : PyData.strOk (("(" : String) : Str) = true := by decide +kernel
  rw [e1]
  split <;> decide +kernel
theorem sumAll : ∀ {ks : List Int}, (∀ k ∈ ks, 0 ≤ k ∧ k < 40) → ((PyData.shownAll (ks.map .int)).map (·.length)).sum ≤ 2 * ks.length
  | [], _ => Nat.le_refl _
  | k :: r, h => by
    rw [List.map_cons, PyData.shownAll_cons, List.map_cons, List.sum_cons, List.length_cons]
    have a := (smallI (h k List.mem_cons_self).1 (h k List.mem_cons_self).2).2.1
    have b := sumAll (ks := r) fun x hx => h x (List.mem_cons_of_mem _ hx)
    omega
theorem lenShown {ks : List Int} (h : Sm ks) : (PyData.shown (.tuple (ks.map .int))).length ≤ 16777216 := by
  have e : PyData.shown (.tuple (ks.map .int)) = tupleText (PyData.shownAll (ks.map .int)) := by simp only [PyData.shown]
  rw [e]
  have a := tupleText_len_le (PyData.shownAll (ks.map .int))
  have b := sumAll h.in'
  have c : (PyData.shownAll (ks.map PyData.int)).length = ks.length := by rw [PyData.shownAll_length, List.length_map]
  have d := h.len
  omega
theorem reprT {ks : List Int} (h : Sm ks) : bRepr [.tuple (ks.map .int)] = some (.str (PyData.shown (.tuple (ks.map .int)))) := by
  have h1 : PyData.showable (.tuple (ks.map .int)) = true := by
    show PyData.showableAll (ks.map .int) = true
    exact PyData.showableAll_ints ks fun k hk => (smallI (h.in' k hk).1 (h.in' k hk).2).2.2
  have h2 : PyData.hasDict (.tuple (ks.map .int)) = false := PyData.hasDictAll_of_canLayAll _ (canInts ks)
  have h3 : PyData.depth (.tuple (ks.map .int)) ≤ 64 := by
    show PyData.depthAll (ks.map .int) + 1 ≤ 64
    rw [depthInts]
    decide
  exact if_pos ⟨h1, h2, h3, lenShown h⟩
theorem neStr {x : Str} (h : PyData.strOk x = true) : cNe (.str x) (.str x) = some false := by
  have s : SeqAt.shaped (.str x) = true := by
    unfold SeqAt.shaped
    have e : PyData.canLay0 (.str x) = true := h
    rw [e]
    rfl
  show (if SeqAt.shaped (.str x) = true ∧ SeqAt.shaped (.str x) = true then some (!PyData.eqv (.str x) (.str x)) else none) = _
  rw [if_pos ⟨s, s⟩]
  have e : PyData.eqv (.str x) (.str x) = true := by
    show (x == x) = true
    simp
  rw [e]
  rfl
theorem eqStr {x : Str} (h : PyData.strOk x = true) : cEq (.str x) (.str x) = some true := by
  have s : SeqAt.shaped (.str x) = true := by
    unfold SeqAt.shaped
    have e : PyData.canLay0 (.str x) = true := h
    rw [e]
    rfl
  show (if SeqAt.shaped (.str x) = true ∧ SeqAt.shaped (.str x) = true then some (PyData.eqv (.str x) (.str x)) else none) = _
  rw [if_pos ⟨s, s⟩]
  have e : PyData.eqv (.str x) (.str x) = true := by
    show (x == x) = true
    simp
  rw [e]
def tf (b : Bool) : Str := if b then "True" else "False"
theorem okTf (b : Bool) : PyData.strOk (tf b) = true := by cases b <;> decide +kernel
@[simp] theorem reprB (b : Bool) : bRepr [.bool b] = some (.str (tf b)) := by cases b <;> rfl
@[simp] theorem eqL0 (ks : List Int) : cEq (.list (ks.map .int)) (.list []) = some ks.isEmpty := by
  show (if SeqAt.shaped (.list (ks.map .int)) = true ∧ SeqAt.shaped (.list []) = true then some (PyData.eqvAll (ks.map .int) []) else none) = _
  rw [if_pos ⟨shL ks, rfl⟩]
  cases ks <;> rfl
@[simp] theorem neT0 (ks : List Int) : cNe (.tuple (ks.map .int)) (.tuple []) = some (!ks.isEmpty) := by
  show (if SeqAt.shaped (.tuple (ks.map .int)) = true ∧ SeqAt.shaped (.tuple []) = true then some (!PyData.eqvAll (ks.map .int) []) else none) = _
  rw [if_pos ⟨shT ks, rfl⟩]
  cases ks <;> rfl
theorem eqvRefl : ∀ ks : List Int, PyData.eqvAll (ks.map .int) (ks.map .int) = true
  | [] => rfl
  | k :: r => by
    have e : PyData.eqvAll ((k :: r).map .int) ((k :: r).map .int) = ((k == k) && PyData.eqvAll (r.map .int) (r.map .int)) := rfl
    rw [e, eqvRefl r]
    simp
theorem eqT (ks : List Int) : cEq (.tuple (ks.map .int)) (.tuple (ks.map .int)) = some true := by
  show (if SeqAt.shaped (.tuple (ks.map .int)) = true ∧ SeqAt.shaped (.tuple (ks.map .int)) = true then some (PyData.eqvAll (ks.map .int) (ks.map .int)) else none) = _
  rw [if_pos ⟨shT ks, shT ks⟩, eqvRefl]
theorem neT (ks : List Int) : cNe (.tuple (ks.map .int)) (.tuple (ks.map .int)) = some false := by
  show (if SeqAt.shaped (.tuple (ks.map .int)) = true ∧ SeqAt.shaped (.tuple (ks.map .int)) = true then some (!PyData.eqvAll (ks.map .int) (ks.map .int)) else none) = _
  rw [if_pos ⟨shT ks, shT ks⟩, eqvRefl]
  rfl
/-! ### the law's own remedies -/
theorem rngE {ms : Mi (List PyData)} {r : Rho} {q : Nat} (e : ms r = .ok [.int q] r) (hq : q ≤ 1000) : mRng rng1 ms r = .ok ((rg q).map .int) r := by
  unfold mRng
  rw [e_bind, e]
  show Mi.opt (rng1 [.int q]) r = _
  rw [rng1_ok q hq]
  rfl
theorem fnRt {body : Rho → Fl} {n : Nat} {P : List Nat} {es : List Ent} {d : Rv} {r : Rho} (h0 : hotIdx 0 es = P) (h : body (rho0 n es) = .rt d r) : fnM body n P es = .rt d (outsOf r P) := by
  unfold fnM
  rw [if_pos h0, h]
def pOut (g : Rig) (r : Int) : PyData → Bool
  | .int x => !decide (r ∈ g.cure x)
  | _ => false
theorem emptyFilter (P : Int → Bool) : ∀ ls : List Int, (ls.filter fun x => !P x).isEmpty = ls.all P
  | [] => rfl
  | x :: r => by
    have ih := emptyFilter P r
    cases h : P x
    · simp [h]
    · simp only [List.filter_cons, h, List.all_cons, Bool.not_true, Bool.true_and]
      exact ih
theorem due_step {g : Rig} (ok : g.ok) (ls : List Int) (hx : ∀ x ∈ ls, 0 ≤ x ∧ x < g.n) (hl : ls.length ≤ 100) (r : Int) (L : List Int) (hL : L.length ≤ 16) :
    l_law_due_remedies_1 [some (.val g.d), some (.val (lotD ls)), some (.hot (L.map .int)), some (.val (.int r)), none] =
      .nx [some (.val g.d), some (.val (lotD ls)), some (.hot ((if ls.all fun x => decide (r ∈ g.cure x) then L ++ [r] else L).map .int)), some (.val (.int r)), none] := by
  have hc := comp_pure (v := 4) (t := t_law_due_remedies_0) (m := e_law_due_remedies_0) (mi := mIter (mVar 1)) (r := [some (.val g.d), some (.val (lotD ls)), some (.hot (L.map .int)), some (.val (.int r)), none]) (r0 := [some (.val g.d), some (.val (lotD ls)), some (.hot (L.map .int)), some (.val (.int r)), none])
    (ds := ls.map .int) (pOut g r) id (by simp [lotD]) rfl (by simp; omega) (fun d hd => by
      obtain ⟨x, hx', rfl⟩ := List.mem_map.mp hd
      obtain ⟨h0, h1⟩ := hx x hx'
      exact ⟨by simp [t_law_due_remedies_0, rig_c, rig_at ok h0 h1, pOut], fun _ => by simp [e_law_due_remedies_0]⟩)
  have e : ((ls.map PyData.int).filter (pOut g r)).map id = (ls.filter fun x => !decide (r ∈ g.cure x)).map PyData.int := by
    rw [List.map_id, List.filter_map]
    rfl
  rw [e] at hc
  have he : (ls.filter fun x => !decide (r ∈ g.cure x)).isEmpty = ls.all fun x => decide (r ∈ g.cure x) := by
    exact emptyFilter (fun x => decide (r ∈ g.cure x)) ls
  cases hp : ls.all fun x => decide (r ∈ g.cure x) with
  | true =>
    rw [hp] at he
    have ap : sApp 2 (mVar 3) [some (.val g.d), some (.val (lotD ls)), some (.hot (L.map .int)), some (.val (.int r)), none] = .nx [some (.val g.d), some (.val (lotD ls)), some (.hot ((L ++ [r]).map .int)), some (.val (.int r)), none] := by
      rw [sApp_ok (i := 2) (m := mVar 3) (r' := [some (.val g.d), some (.val (lotD ls)), some (.hot (L.map .int)), some (.val (.int r)), none]) (d := .int r) (xs := L.map .int) (ys := L.map .int) rfl rfl rfl (by rw [List.length_map]; omega), List.map_append]
      rfl
    simp [l_law_due_remedies_1, hc, he, ap]
  | false =>
    rw [hp] at he
    simp [l_law_due_remedies_1, hc, he]
theorem due_ok {g : Rig} (ok : g.ok) (ls : List Int) (hx : ∀ x ∈ ls, 0 ≤ x ∧ x < g.n) (hl : ls.length ≤ 100) : f_law_due_remedies [.val g.d, .val (lotD ls)] = .rt (.cold (.tuple ((rem g ls).map .int))) [] := by
  obtain ⟨r', lp, y, hr⟩ := forL_inv (g := gNm 3) (b := l_law_due_remedies_1)
    (fun k r => ∃ y, r = [some (.val g.d), some (.val (lotD ls)), some (.hot ((((rg g.q).take k).filter fun r => ls.all fun x => decide (r ∈ g.cure x)).map .int)), y, none])
    ((rg g.q).map .int) 0 [some (.val g.d), some (.val (lotD ls)), some (.hot []), none, none] ⟨none, rfl⟩
    (fun j d r hd ⟨y, hr⟩ => by
      subst hr
      rw [List.getElem?_map] at hd
      obtain ⟨i, hj, rfl⟩ := Option.map_eq_some_iff.mp hd
      have hL : (((rg g.q).take (0 + j)).filter fun r => ls.all fun x => decide (r ∈ g.cure x)).length ≤ 16 := by
        refine Nat.le_trans (List.length_filter_le _ _) (Nat.le_trans (List.length_take_le' _ _) ?_)
        rw [rg_len]
        exact ok.q2
      refine ⟨_, _, rfl, due_step ok ls hx hl i _ hL, some (.val (.int i)), ?_⟩
      have grow : (rg g.q).take (0 + j + 1) = (rg g.q).take (0 + j) ++ [i] := by
        rw [Nat.zero_add, List.take_add_one, hj]
        rfl
      rw [grow, List.filter_append]
      congr 4
      cases hp : ls.all fun x => decide (i ∈ g.cure x) with
      | true => simp [hp]
      | false => simp [hp])
  subst hr
  have ht : (rg g.q).take (0 + ((rg g.q).map PyData.int).length) = rg g.q := by
    rw [Nat.zero_add, List.length_map, List.take_length]
  rw [ht] at lp
  have hb : b_law_due_remedies [some (.val g.d), some (.val (lotD ls)), none, none, none] = .rt (.cold (.tuple ((rem g ls).map .int))) [some (.val g.d), some (.val (lotD ls)), some (.val (.list ((rem g ls).map .int))), y, none] := by
    unfold b_law_due_remedies
    refine (seqNx (r1 := [some (.val g.d), some (.val (lotD ls)), some (.hot []), none, none]) (by simp)).trans ?_
    refine (seqNx (forS (rngE (q := g.q) (by simp [rig_q]) (by have := ok.q2; omega)) lp)).trans ?_
    simp [bTup, rem]
  exact fnRt (body := b_law_due_remedies) (n := 5) (P := []) rfl hb
end K01
set_option maxHeartbeats 1000000
namespace K01
open PySem PySem.Spec Dn L2
theorem fnRt2 {body : Rho → Fl} {n : Nat} {P : List Nat} {es : List Ent} {d : Rv} {r0 r : Rho} {outs : List (List PyData)} (h0 : hotIdx 0 es = P) (hr : rho0 n es = r0) (h : body r0 = .rt d r) (ho : outsOf r P = outs) : fnM body n P es = .rt d outs := by
  unfold fnM
  rw [if_pos h0, hr, h, ← ho]
theorem asc_len {m : Int} : ∀ {ls : List Int} {a : Int}, a < m → asc m a ls = true → (ls.length : Int) ≤ m - a - 1
  | [], a, h, _ => by simp; omega
  | p :: r, a, h, e => by
    simp only [asc, Bool.and_eq_true, decide_eq_true_eq] at e
    have z := asc_len e.2.1 e.2.2
    rw [List.length_cons]
    omega
theorem rg_mem {q : Nat} {r : Int} : r ∈ rg q ↔ 0 ≤ r ∧ r < q := by
  unfold rg
  rw [List.mem_map]
  constructor
  · rintro ⟨i, hi, rfl⟩
    have := List.mem_range.mp hi
    omega
  · rintro ⟨h0, h1⟩
    exact ⟨r.toNat, List.mem_range.mpr (by omega), by omega⟩
theorem rem_mem {g : Rig} {ls : List Int} {r : Int} : r ∈ rem g ls ↔ (r ∈ rg g.q ∧ ∀ x ∈ ls, r ∈ g.cure x) := by
  unfold rem
  rw [List.mem_filter, List.all_eq_true]
  simp
theorem rem_sm {g : Rig} (ok : g.ok) (ls : List Int) : Sm (rem g ls) := by
  refine ⟨fun k hk => ?_, ?_⟩
  · have z := rg_mem.mp (rem_mem.mp hk).1
    have := ok.q2
    omega
  · refine Nat.le_trans (List.length_filter_le _ _) ?_
    rw [rg_len]
    have := ok.q2
    omega
theorem lot_len {g : Rig} (ok : g.ok) {ls : List Int} (h : asc g.n (-1) ls = true) : ls.length ≤ 24 := by
  have z := asc_len (by have := ok.n1; omega) h
  have := ok.n2
  omega
theorem pos_emp (ks : List Int) : decide (0 < ks.length) = !ks.isEmpty := by cases ks <;> simp
def pNot (c : List Int) : PyData → Bool
  | .int r => !decide (r ∈ c)
  | _ => false
theorem filtN (c L : List Int) : ((L.map PyData.int).filter (pNot c)).map id = (L.filter fun r => !decide (r ∈ c)).map PyData.int := by
  rw [List.map_id, List.filter_map]
  rfl
theorem eqTf (b : Bool) : cEq (.str (tf b)) (.str (tf b)) = some true := eqStr (okTf b)
theorem neTf (b : Bool) : cNe (.str (tf b)) (.str (tf b)) = some false := neStr (okTf b)
theorem andTT {ma mb : Mi PyData} {r r1 r2 : Rho} (h1 : ma r = .ok (.bool true) r1) (h2 : mb r1 = .ok (.bool true) r2) : sRet (mAnd ma mb) r = .rt (.cold (.bool true)) r2 := by
  simp [h1, h2]
theorem lot_ok {g : Rig} (ok : g.ok) {a b : Int} (I : Inv a b) (ls : List Int) (h : asc g.n (-1) ls = true) : ∃ a' b', Inv a' b' ∧ f_law_lot_right [.hot (src a b), .val g.d, .val (lotD ls)] = .rt (.cold (.bool true)) [src a' b'] := by
  have h24 := lot_len ok h
  have eD := due_ok ok ls (lot_in h) (by omega)
  obtain ⟨a1, b1, ys, I1, hs, eS⟩ := some_ok I (lotD ls) ls rfl (by omega)
  have hy := asc_sub hs h
  have eR := remedies_ok ok ls h
  have eN := done_ok ok ls h
  have eR2 := remedies_ok ok ys hy
  have eN2 := done_ok ok ys hy
  have rT := reprT (rem_sm ok ls)
  have nS := neStr (okShown (rem_sm ok ls))
  rw [pos_emp] at eN eN2
  refine ⟨a1, b1, I1, ?_⟩
  have hc := comp_pure (v := 6) (t := t_law_lot_right_0) (m := e_law_lot_right_0) (mi := mIter (mVar 3)) (r := [some (.hot (src a1 b1)), some (.val g.d), some (.val (lotD ls)), some (.val (.tuple ((rem g ls).map .int))), some (.val (lotD ys)), some (.val (.tuple ((rem g ys).map .int))), none]) (r0 := [some (.hot (src a1 b1)), some (.val g.d), some (.val (lotD ls)), some (.val (.tuple ((rem g ls).map .int))), some (.val (lotD ys)), some (.val (.tuple ((rem g ys).map .int))), none])
    (ds := (rem g ls).map .int) (pNot (rem g ys)) id (by simp) rfl (by have := (rem_sm ok ls).len; simp; omega) (fun d hd => by
      obtain ⟨x, _, rfl⟩ := List.mem_map.mp hd
      exact ⟨by simp [t_law_lot_right_0, pNot], fun _ => by simp [e_law_lot_right_0]⟩)
  rw [filtN] at hc
  have em : ((rem g ls).filter fun r => !decide (r ∈ rem g ys)) = [] := by
    rw [List.filter_eq_nil_iff]
    intro r hr
    obtain ⟨h1, h2⟩ := rem_mem.mp hr
    have z : r ∈ rem g ys := rem_mem.mpr ⟨h1, fun x hx => h2 x (hs.subset hx)⟩
    simp [z]
  rw [em] at hc
  have e0 : cEq (.list ([] : List PyData)) (.list []) = some true := eqL0 []
  have hb : b_law_lot_right [some (.hot (src a b)), some (.val g.d), some (.val (lotD ls)), none, none, none, none] = .rt (.cold (.bool true)) [some (.hot (src a1 b1)), some (.val g.d), some (.val (lotD ls)), some (.val (.tuple ((rem g ls).map .int))), some (.val (lotD ys)), some (.val (.tuple ((rem g ys).map .int))), none] := by
    unfold b_law_lot_right
    refine (seqNx (r1 := [some (.hot (src a1 b1)), some (.val g.d), some (.val (lotD ls)), some (.val (.tuple ((rem g ls).map .int))), some (.val (lotD ys)), none, none]) (by simp [eD, eS, bTup]; try rfl)).trans ?_
    refine (seqNx (r1 := [some (.hot (src a1 b1)), some (.val g.d), some (.val (lotD ls)), some (.val (.tuple ((rem g ls).map .int))), some (.val (lotD ys)), none, none]) (by simp [eR, eN, rT, nS, neTf])).trans ?_
    refine (seqNx (r1 := [some (.hot (src a1 b1)), some (.val g.d), some (.val (lotD ls)), some (.val (.tuple ((rem g ls).map .int))), some (.val (lotD ys)), some (.val (.tuple ((rem g ys).map .int))), none]) (by simp [eR2])).trans ?_
    refine andTT (r1 := [some (.hot (src a1 b1)), some (.val g.d), some (.val (lotD ls)), some (.val (.tuple ((rem g ls).map .int))), some (.val (lotD ys)), some (.val (.tuple ((rem g ys).map .int))), none]) ?_ ?_
    · rw [e_bin, e_bind, e_ofF, e_bind, hc]
      show Mi.opt (fB cEq (.list []) (.list [])) _ = _
      rw [e_fB, e0]
      rfl
    · simp [eN2, eqTf]
  unfold f_law_lot_right
  exact fnRt2 (by simp) (by simp) hb (by simp)
theorem setB {mi : Mi (List PyData)} {g : PyData → Rho → Option Rho} {t : Mi Bool} {e : Mi PyData} {v i : Nat} {r r0 : Rho} {L : List PyData} (h : mComp mi g t e [v] r = .ok L r0) : sSet i (mBlt bTup (mCons (mOfF (mComp mi g t e [v])) mNil)) r = .nx (r0.set i (some (.val (.tuple L)))) := by
  simp [h, bTup]
def pTwo (one two : List Int) : PyData → Bool
  | .int x => decide (x ∈ one) || decide (x ∈ two)
  | _ => false
theorem both_ok {g : Rig} (ok : g.ok) (one two : List Int) (h1 : asc g.n (-1) one = true) (h2 : asc g.n (-1) two = true) : f_law_both_right [.val g.d, .val (lotD one), .val (lotD two)] = .rt (.cold (.bool true)) [] := by
  have n24 := ok.n2
  have eR1 := remedies_ok ok one h1
  have eR2 := remedies_ok ok two h2
  have hc1 := comp_pure (v := 4) (t := t_law_both_right_0) (m := e_law_both_right_0) (mi := mRng rng1 (mCons (mIxV 0 (Mi.ret (.int 0))) mNil)) (r := [some (.val g.d), some (.val (lotD one)), some (.val (lotD two)), none, none, none, none, none]) (r0 := [some (.val g.d), some (.val (lotD one)), some (.val (lotD two)), none, none, none, none, none])
    (ds := (rg g.n).map .int) (pTwo one two) id (rngE (q := g.n) (by simp [rig_n]) (by omega)) rfl (by simp [rg_len]; omega) (fun d hd => by
      obtain ⟨x, _, rfl⟩ := List.mem_map.mp hd
      refine ⟨?_, fun _ => by simp [e_law_both_right_0]⟩
      by_cases z : x ∈ one <;> by_cases z2 : x ∈ two <;> simp [t_law_both_right_0, pTwo, lotD, z, z2])
  have e1 : (((rg g.n).map PyData.int).filter (pTwo one two)).map id = ((rg g.n).filter fun x => decide (x ∈ one) || decide (x ∈ two)).map PyData.int := by
    rw [List.map_id, List.filter_map]
    rfl
  rw [e1] at hc1
  generalize hB : ((rg g.n).filter fun x => decide (x ∈ one) || decide (x ∈ two)) = both at hc1
  have hbo : asc g.n (-1) both = true := by
    rw [← hB]
    exact asc_sub (List.filter_sublist) (asc_rg g.n (-1) (by decide))
  have eR3 := remedies_ok ok both hbo
  have hc2 := comp_pure (v := 7) (t := t_law_both_right_1) (m := e_law_both_right_1) (mi := mIter (mVar 5)) (r := [some (.val g.d), some (.val (lotD one)), some (.val (lotD two)), some (.val (lotD both)), none, some (.val (.tuple ((rem g one).map .int))), some (.val (.tuple ((rem g two).map .int))), none]) (r0 := [some (.val g.d), some (.val (lotD one)), some (.val (lotD two)), some (.val (lotD both)), none, some (.val (.tuple ((rem g one).map .int))), some (.val (.tuple ((rem g two).map .int))), none])
    (ds := (rem g one).map .int) (pIn (rem g two)) id (by simp) rfl (by have := (rem_sm ok one).len; simp; omega) (fun d hd => by
      obtain ⟨x, _, rfl⟩ := List.mem_map.mp hd
      exact ⟨by simp [t_law_both_right_1, pIn], fun _ => by simp [e_law_both_right_1]⟩)
  rw [filt] at hc2
  have em : ((rem g one).filter fun r => decide (r ∈ rem g two)) = rem g both := by
    unfold rem
    rw [List.filter_filter]
    apply List.filter_congr
    intro r hr
    rw [Bool.eq_iff_iff, Bool.and_eq_true, List.all_eq_true, List.all_eq_true]
    simp only [decide_eq_true_eq, List.mem_filter, List.all_eq_true]
    constructor
    · rintro ⟨⟨_, h4⟩, h3⟩ x hx
      rw [← hB, List.mem_filter] at hx
      have z := hx.2
      simp only [Bool.or_eq_true, decide_eq_true_eq] at z
      rcases z with z | z
      · exact h3 x z
      · exact h4 x z
    · intro h3
      have inB : ∀ x : Int, 0 ≤ x → x < g.n → (x ∈ one ∨ x ∈ two) → x ∈ both := fun x a0 a1 z => by
        rw [← hB, List.mem_filter]
        exact ⟨rg_mem.mpr ⟨a0, a1⟩, by simpa using z⟩
      refine ⟨⟨hr, fun x hx => h3 x (inB x (lot_in h2 x hx).1 (lot_in h2 x hx).2 (.inr hx))⟩, fun x hx => h3 x (inB x (lot_in h1 x hx).1 (lot_in h1 x hx).2 (.inl hx))⟩
  rw [em] at hc2
  have hb : b_law_both_right [some (.val g.d), some (.val (lotD one)), some (.val (lotD two)), none, none, none, none, none] = .rt (.cold (.bool true)) [some (.val g.d), some (.val (lotD one)), some (.val (lotD two)), some (.val (lotD both)), none, some (.val (.tuple ((rem g one).map .int))), some (.val (.tuple ((rem g two).map .int))), none] := by
    unfold b_law_both_right
    refine (seqNx (setB hc1)).trans ?_
    refine (seqNx (r1 := [some (.val g.d), some (.val (lotD one)), some (.val (lotD two)), some (.val (lotD both)), none, some (.val (.tuple ((rem g one).map .int))), some (.val (.tuple ((rem g two).map .int))), none]) (by simp [eR1, eR2]; rfl)).trans ?_
    simp [eR3, hc2, bTup, eqT]
  unfold f_law_both_right
  exact fnRt2 (by simp) (by simp) hb (by simp)
end K01
set_option maxHeartbeats 1000000
namespace K01
open PySem PySem.Spec Dn L2
theorem refLot (r : Rho) : f_law_is_refused (.ex "BadLot" (.int (-1)) r) [.bool true] = .rt (.bool true) := by
  have e1 : is_Refused "BadLot" = some true := by decide
  have e2 : is_BadLot "BadLot" = some true := by decide
  have e3 : is_BadRig "BadLot" = some false := by decide
  have e4 : bRepr [.int (-1)] = some (.str "-1") := by
    have z : ((toString (-1 : Int) : String) : Str) = "-1" := by decide +kernel
    have c : (-1 : Int).natAbs.log2 < 1920 := by decide +kernel
    rw [← z]
    show (if (-1 : Int).natAbs.log2 < 1920 then some (PyData.str ((toString (-1 : Int) : String) : Str)) else none) = _
    rw [if_pos c]
  have e5 : cEq (.str "-1") (.str "-1") = some true := eqStr (by decide +kernel)
  simp [f_law_is_refused, fnT, b_law_is_refused, rhoL, sTry, mThk, e1, e2, e3, e4, e5, unslot]
theorem refRig (r : Rho) : f_law_is_refused (.ex "BadRig" (.tuple [.int (-1)]) r) [.bool false] = .rt (.bool true) := by
  have e1 : is_Refused "BadRig" = some true := by decide
  have e2 : is_BadLot "BadRig" = some false := by decide
  have e3 : is_BadRig "BadRig" = some true := by decide
  have e5 : cEq (.str "(-1,)") (.str "(-1,)") = some true := eqStr (by decide +kernel)
  have e4 : bRepr [.tuple [.int (-1)]] = some (.str "(-1,)") := by
    have z : PyData.shown (.tuple [.int (-1)]) = "(-1,)" := by decide +kernel
    have c : (PyData.tuple [.int (-1)]).showable = true ∧ (PyData.tuple [.int (-1)]).hasDict = false ∧ (PyData.tuple [.int (-1)]).depth ≤ 64 ∧ (PyData.tuple [.int (-1)]).shown.length ≤ 16777216 := by decide +kernel
    rw [← z]
    simp only [bRepr]
    rw [if_pos c]
  simp [f_law_is_refused, fnT, b_law_is_refused, rhoL, sTry, mThk, e1, e2, e3, e4, e5, unslot]
theorem lamOk {fm : Out PyData → List PyData → FT} {m : Mi PyData} {ds : List PyData} {r : Rho} {o : Out PyData} {d : PyData} (h : m (erase r) = o) (h2 : fm o ds = .rt d) : mLam fm m ds r = .ok d r := by
  unfold mLam
  rw [h, h2]
theorem odd_ok {g : Rig} (ok : g.ok) {a b : Int} (I : Inv a b) : ∃ a' b', Inv a' b' ∧ f_law_odd_right [.hot (src a b), .val g.d] = .rt (.cold (.bool true)) [src a' b'] := by
  have n1 := ok.n1
  obtain ⟨a1, b1, d, I1, hd, e⟩ := one_ok I [.none, .tuple [.int g.n], .tuple [.int (-1)], .tuple [.int 0, .int 0], .tuple [.int 0, .int g.n], .str "0", .int 0, .tuple [.str "0"], .tuple [.none], .tuple [.int 0, .int (-1)], .tuple [.tuple [.int 0]]] (by simp) (by simp)
  have bad : f_is_ascending [.val d, .val (.int g.n)] = .rt (.cold (.bool false)) [] := by
    simp only [List.mem_cons, List.not_mem_nil, or_false] at hd
    rcases hd with rfl | rfl | rfl | rfl | rfl | rfl | rfl | rfl | rfl | rfl | rfl
    · exact asc_none _
    · have z := asc_ints [(g.n : Int)] g.n
      simpa [asc] using z
    · have z := asc_ints [-1] g.n
      simpa [asc] using z
    · have z := asc_ints [0, 0] g.n
      simpa [asc] using z
    · have z := asc_ints [0, (g.n : Int)] g.n
      simpa [asc] using z
    · exact asc_str _ _
    · exact asc_int _ _
    · exact asc_odd _ _ (is_number_str _)
    · exact asc_odd _ _ is_number_none
    · have z := asc_ints [0, -1] g.n
      simpa [asc] using z
    · exact asc_odd _ _ (is_number_tup _)
  refine ⟨a1, b1, I1, ?_⟩
  have eR := remedies_bad ok d bad
  have eN := done_bad ok d bad
  have four : fCut none (some 4) g.d = some (.tuple [.int g.n, .int g.q, g.cd, g.sd]) := by
    simp [Rig.d, fCut, cutD]
    rfl
  have eF : f_remedies_for [.val (.tuple [.int g.n, .int g.q, g.cd, g.sd]), .val d] = .ex "BadRig" (.tuple [.int (-1)]) [] := by
    have z := made_rig_four [.int g.n, .int g.q, g.cd, g.sd] rfl
    simp [f_remedies_for, b_remedies_for, f_check_rig_and_lot, b_check_rig_and_lot, z]
  let R : Rho := [some (.hot (src a1 b1)), some (.val g.d), some (.val (.int g.n)), some (.val d)]
  let Re : Rho := [none, some (.val g.d), some (.val (.int g.n)), some (.val d)]
  have er : erase R = Re := rfl
  have m1 : mLam f_law_is_refused (mCall f_remedies_for (aVal (mVar 1) (aVal (mVar 3) aNil))) [.bool true] R = .ok (.bool true) R := by
    refine lamOk (o := .ex "BadLot" (.int (-1)) Re) ?_ (refLot _)
    rw [er]
    simp [Re, eR]
  have m2 : mLam f_law_is_refused (mCall f_done (aVal (mVar 1) (aVal (mVar 3) aNil))) [.bool true] R = .ok (.bool true) R := by
    refine lamOk (o := .ex "BadLot" (.int (-1)) Re) ?_ (refLot _)
    rw [er]
    simp [Re, eN]
  have m3 : mLam f_law_is_refused (mCall f_remedies_for (aVal (mCut (mVar 1) (Mi.ret none) (mPart (Mi.ret (.int 4)))) (aVal (mVar 3) aNil))) [.bool false] R = .ok (.bool true) R := by
    refine lamOk (o := .ex "BadRig" (.tuple [.int (-1)]) Re) ?_ (refRig _)
    rw [er]
    simp [Re, four, eF]
  have hb : b_law_odd_right [some (.hot (src a b)), some (.val g.d), none, none] = .rt (.cold (.bool true)) R := by
    unfold b_law_odd_right
    refine (seqNx (r1 := [some (.hot (src a b)), some (.val g.d), some (.val (.int g.n)), none]) (by simp [rig_n])).trans ?_
    refine (seqNx (r1 := R) (by simp [e, R])).trans ?_
    refine (seqNx (r1 := R) (by simp [m1])).trans ?_
    refine (seqNx (r1 := R) (by simp [m2])).trans ?_
    simp [m3]
  unfold f_law_odd_right
  exact fnRt2 (by simp) (by simp) hb (by simp [R])
end K01
set_option maxHeartbeats 1000000
namespace K01
open PySem PySem.Spec Dn L2
theorem mCompOf {mi : Mi (List PyData)} {g : PyData → Rho → Option Rho} {t : Mi Bool} {e : Mi PyData} {v : Nat} {r r0 r' : Rho} {ds acc : List PyData} (h : mi r = .ok ds r0) (c : compL g t e [v] ds [] r0 = .ok acc r') : mComp mi g t e [v] r = .ok acc (restR r' r0 [v]) := by
  rw [e_comp, e_bind, h]
  simp only
  rw [c]
theorem rg_sm {n : Nat} (h : n ≤ 24) : Sm (rg n) := ⟨fun k hk => by
  have z := rg_mem.mp hk
  omega, by rw [rg_len]; omega⟩
theorem rem_nil (g : Rig) : rem g [] = rg g.q := by
  unfold rem
  exact List.filter_eq_self.mpr (fun _ _ => rfl)
theorem cut3 (L : List Int) : fCut none (some 3) (lotD L) = some (lotD (L.take 3)) := by
  have e : cutD (L.map PyData.int) none (some 3) = (L.take 3).map PyData.int := by
    unfold cutD
    rw [HT.sIx_none, show HT.sIx (L.map PyData.int).length (L.map PyData.int).length (some 3) = min 3 (L.map PyData.int).length from HT.sIx_nat _ _ 3]
    rw [List.drop_zero, Nat.sub_zero, List.map_take, List.length_map]
    by_cases h : 3 ≤ L.length
    · rw [Nat.min_eq_left h]
    · rw [Nat.min_eq_right (by omega), List.take_of_length_le (by simp), List.take_of_length_le (by simp; omega)]
  show some (PyData.tuple (cutD (L.map PyData.int) none (some 3))) = _
  rw [e]
  rfl
section
variable {g : Rig}
theorem turns (ok : g.ok) (S : PyData) {a b : Int} (I : Inv a b) (n : Nat) (hn : n = g.n) : ∃ (a' b' : Int) (Ls : List (List Int)), Inv a' b' ∧ (∀ L ∈ Ls, asc g.n (-1) L = true) ∧ Ls.length = 6 ∧
    mComp (mRng rng1 (mCons (Mi.ret (.int 6)) mNil)) (gNm 7) t_law_3 e_law_3 [7] [some (.val S), some (.hot (src a b)), some (.val g.d), some (.val (lotD (rg g.n))), none, none, none, none, none] =
      .ok (Ls.map lotD) [some (.val S), some (.hot (src a' b')), some (.val g.d), some (.val (lotD (rg g.n))), none, none, none, none, none] := by
  have n24 := ok.n2
  obtain ⟨acc, r', c, a', b', Ls, x, I', hr, hacc, hA, hL⟩ := compL_inv (g := gNm 7) (t := t_law_3) (m := e_law_3) (vs := [7])
    (fun k acc r => ∃ (a b : Int) (Ls : List (List Int)) (x : Option Ent), Inv a b ∧ r = [some (.val S), some (.hot (src a b)), some (.val g.d), some (.val (lotD (rg g.n))), none, none, none, x, none] ∧ acc = Ls.map lotD ∧ (∀ L ∈ Ls, asc g.n (-1) L = true) ∧ Ls.length = k)
    ((rg 6).map .int) [] 0 [some (.val S), some (.hot (src a b)), some (.val g.d), some (.val (lotD (rg g.n))), none, none, none, none, none] ⟨a, b, [], none, I, rfl, rfl, (fun L hL => by cases hL), rfl⟩ (by simp [rg_len])
    (fun j d acc r hd ⟨a, b, Ls, x, I, hr, hacc, hA, hL⟩ => by
      subst hr
      subst hacc
      obtain ⟨a', b', ys, I', hs, e⟩ := some_ok I (lotD (rg g.n)) (rg g.n) rfl (by rw [rg_len]; omega)
      refine ⟨[some (.val S), some (.hot (src a b)), some (.val g.d), some (.val (lotD (rg g.n))), none, none, none, some (.val d), none], [some (.val S), some (.hot (src a b)), some (.val g.d), some (.val (lotD (rg g.n))), none, none, none, some (.val d), none], rfl, .inr ⟨lotD ys, [some (.val S), some (.hot (src a' b')), some (.val g.d), some (.val (lotD (rg g.n))), none, none, none, some (.val d), none], by simp [t_law_3], (by simp [e_law_3, e, bTup]; try rfl), a', b', Ls ++ [ys], _, I', rfl, by simp, fun L hL' => ?_, by simp [hL]⟩⟩
      rcases List.mem_append.mp hL' with z | z
      · exact hA L z
      · rw [List.mem_singleton.mp z]
        exact asc_sub hs (asc_rg g.n (-1) (by decide)))
  subst hr
  subst hacc
  exact ⟨a', b', Ls, I', hA, by rw [hL]; simp [rg_len], mCompOf (rngE (q := 6) (by simp) (by omega)) c⟩
theorem checks (ok : g.ok) (S : PyData) {a b : Int} (I : Inv a b) (Ls : List (List Int)) (hA : ∀ L ∈ Ls, asc g.n (-1) L = true) (hlen : Ls.length ≤ 1000) : ∃ (a' b' : Int), Inv a' b' ∧
    mComp (mIter (mVar 6)) (gNm 8) t_law_4 e_law_4 [8] [some (.val S), some (.hot (src a b)), some (.val g.d), some (.val (lotD (rg g.n))), none, none, some (.val (.list (Ls.map lotD))), none, none] =
      .ok [] [some (.val S), some (.hot (src a' b')), some (.val g.d), some (.val (lotD (rg g.n))), none, none, some (.val (.list (Ls.map lotD))), none, none] := by
  obtain ⟨acc, r', c, a', b', x, I', hr, hacc⟩ := compL_inv (g := gNm 8) (t := t_law_4) (m := e_law_4) (vs := [8])
    (fun k acc r => ∃ (a b : Int) (x : Option Ent), Inv a b ∧ r = [some (.val S), some (.hot (src a b)), some (.val g.d), some (.val (lotD (rg g.n))), none, none, some (.val (.list (Ls.map lotD))), none, x] ∧ acc = [])
    (Ls.map lotD) [] 0 [some (.val S), some (.hot (src a b)), some (.val g.d), some (.val (lotD (rg g.n))), none, none, some (.val (.list (Ls.map lotD))), none, none] ⟨a, b, none, I, rfl, rfl⟩ (by simp; omega)
    (fun j d acc r hd ⟨a, b, x, I, hr, hacc⟩ => by
      subst hr
      subst hacc
      rw [List.getElem?_map] at hd
      obtain ⟨L, hj, rfl⟩ := Option.map_eq_some_iff.mp hd
      obtain ⟨a', b', I', e⟩ := lot_ok ok I L (hA L (List.mem_of_getElem? hj))
      exact ⟨[some (.val S), some (.hot (src a b)), some (.val g.d), some (.val (lotD (rg g.n))), none, none, some (.val (.list (Ls.map lotD))), none, some (.val (lotD L))], [some (.val S), some (.hot (src a' b')), some (.val g.d), some (.val (lotD (rg g.n))), none, none, some (.val (.list (Ls.map lotD))), none, some (.val (lotD L))], rfl, .inl ⟨by simp [t_law_4, e], a', b', _, I', rfl, rfl⟩⟩)
  subst hr
  subst hacc
  exact ⟨a', b', I', mCompOf (ds := Ls.map lotD) (by simp) c⟩
end
end K01
set_option maxHeartbeats 1000000
namespace K01
open PySem PySem.Spec Dn L2
theorem emptyNe : cNe (.list ([] : List PyData)) (.list []) = some false := by decide +kernel
theorem fAddL (xs ys : List PyData) (h : xs.length + ys.length ≤ 16777216) : fAdd (.list xs) (.list ys) = some (.list (xs ++ ys)) := if_pos h
theorem lastAt {Ls : List (List Int)} {k : Int} (h0 : 0 ≤ k) (h1 : k < Ls.length) : ∃ L ∈ Ls, fIx (.list (Ls.map lotD)) (.int k) = some (lotD L) := by
  have hl : k.toNat < Ls.length := by omega
  have e : (Ls.map lotD)[k.toNat]? = some (lotD Ls[k.toNat]) := by
    rw [List.getElem?_map, List.getElem?_eq_getElem hl]
    rfl
  have z := atI_nat e
  have ex : ((k.toNat : Nat) : Int) = k := by omega
  rw [ex] at z
  exact ⟨_, List.getElem_mem hl, z⟩
theorem law_true (ns : List Int) (h1 : ns.length ≤ 63) (h2 : ∀ z ∈ ns, Builtin.Int.intBits z ≤ 1048576) : f_law [.val (intsD ns)] = .rt (.cold (.bool true)) [] := by
  obtain ⟨a, b, I, eP⟩ := pool_ok ns h1
  generalize eS : intsD ns = S at eP
  obtain ⟨a1, b1, g, I1, ok, eW⟩ := wide_ok I
  have n1 := ok.n1
  have n24 := ok.n2
  have q16 := ok.q2
  have asR : asc g.n (-1) (rg g.n) = true := asc_rg g.n (-1) (by decide)
  have hc1 := comp_pure (v := 4) (t := t_law_0) (m := e_law_0) (mi := mRng rng1 (mCons (mIxV 2 (Mi.ret (.int 0))) mNil)) (r := [some (.val S), some (.hot (src a1 b1)), some (.val g.d), none, none, none, none, none, none]) (r0 := [some (.val S), some (.hot (src a1 b1)), some (.val g.d), none, none, none, none, none, none])
    (ds := (rg g.n).map .int) (fun _ => true) id (rngE (q := g.n) (by simp [rig_n]) (by omega)) rfl (by simp [rg_len]; omega) (fun d _ => ⟨by simp [t_law_0], fun _ => by simp [e_law_0]⟩)
  rw [filt_all] at hc1
  have eA : f_all_faults [.val g.d] = .rt (.cold (lotD (rg g.n))) [] := by
    rw [all_faults_ok ok, ranged_rg]
    rfl
  have rN : bRepr [lotD (rg g.n)] = some (.str (PyData.shown (lotD (rg g.n)))) := reprT (rg_sm n24)
  have nN : cNe (.str (PyData.shown (lotD (rg g.n)))) (.str (PyData.shown (lotD (rg g.n)))) = some false := neStr (okShown (rg_sm n24))
  have eR0 : f_remedies_for [.val g.d, .val (.tuple [])] = .rt (.cold (.tuple ((rg g.q).map .int))) [] := by
    have z := remedies_ok ok [] rfl
    rw [rem_nil] at z
    exact z
  let E : Option Ent → Int → Int → Rho := fun lots a b => [some (.val S), some (.hot (src a b)), some (.val g.d), some (.val (lotD (rg g.n))), none, none, lots, none, none]
  have hc2 := comp_pure (v := 5) (t := t_law_1) (m := e_law_1) (mi := mRng rng1 (mCons (mIxV 2 (Mi.ret (.int 1))) mNil)) (r := [some (.val S), some (.hot (src a1 b1)), some (.val g.d), some (.val (lotD (rg g.n))), none, none, none, none, none]) (r0 := [some (.val S), some (.hot (src a1 b1)), some (.val g.d), some (.val (lotD (rg g.n))), none, none, none, none, none])
    (ds := (rg g.q).map .int) (fun _ => true) id (rngE (q := g.q) (by simp [rig_q]) (by omega)) rfl (by simp [rg_len]; omega) (fun d _ => ⟨by simp [t_law_1], fun _ => by simp [e_law_1]⟩)
  rw [filt_all] at hc2
  have hc3 := comp_pure (v := 4) (t := t_law_2) (m := e_law_2) (mi := mIter (mCut (mVar 3) (Mi.ret none) (mPart (Mi.ret (.int 3))))) (r := [some (.val S), some (.hot (src a1 b1)), some (.val g.d), some (.val (lotD (rg g.n))), none, none, none, none, none]) (r0 := [some (.val S), some (.hot (src a1 b1)), some (.val g.d), some (.val (lotD (rg g.n))), none, none, none, none, none])
    (ds := ((rg g.n).take 3).map .int) (fun _ => true) (fun d => .tuple [d]) (by simp [cut3]; rw [← List.map_take]; rfl) rfl (by simp; omega) (fun d _ => ⟨by simp [t_law_2], fun _ => by simp [e_law_2]⟩)
  have e3 : ((((rg g.n).take 3).map PyData.int).filter fun _ => true).map (fun d => PyData.tuple [d]) = (((rg g.n).take 3).map fun x => [x]).map lotD := by
    rw [List.filter_eq_self.mpr (fun _ _ => rfl), List.map_map, List.map_map]
    rfl
  rw [e3] at hc3
  obtain ⟨a2, b2, Ls, I2, hLs, hL6, hc4⟩ := turns ok S I1 g.n rfl
  let LL : List (List Int) := [[], rg g.n] ++ ((rg g.n).take 3).map (fun x => [x]) ++ Ls
  have hLL : ∀ L ∈ LL, asc g.n (-1) L = true := by
    intro L hL
    rcases List.mem_append.mp hL with z | z
    · rcases List.mem_append.mp z with z | z
      · rcases List.mem_cons.mp z with rfl | z
        · rfl
        · rw [List.mem_singleton.mp z]
          exact asR
      · obtain ⟨x, hx, rfl⟩ := List.mem_map.mp z
        have w := rg_mem.mp (List.mem_of_mem_take hx)
        simp only [asc, Bool.and_eq_true, decide_eq_true_eq, and_true]
        omega
    · exact hLs L z
  have lLL : LL.length ≤ 11 ∧ 8 ≤ LL.length := by
    simp only [LL, List.length_append, List.length_cons, List.length_nil, List.length_map, List.length_take, hL6]
    omega
  have eLL : LL.map lotD = ([PyData.tuple [], lotD (rg g.n)] ++ (((rg g.n).take 3).map fun x => [x]).map lotD) ++ Ls.map lotD := by
    simp only [LL, List.map_append]
    rfl
  clear_value LL
  obtain ⟨a3, b3, I3, hc5⟩ := checks ok S I2 LL hLL (by omega)
  obtain ⟨L1, m1, x1⟩ := lastAt (Ls := LL) (k := (LL.length : Int) - 1) (by omega) (by omega)
  obtain ⟨L2, m2, x2⟩ := lastAt (Ls := LL) (k := (LL.length : Int) - 2) (by omega) (by omega)
  have eB := both_ok ok L1 L2 (hLL _ m1) (hLL _ m2)
  obtain ⟨a4, b4, I4, eO⟩ := odd_ok ok I3
  have eD := done_ok ok (rg g.n) asR
  rw [pos_emp] at eD
  have eU := due_ok ok (rg g.n) (lot_in asR) (by rw [rg_len]; omega)
  have hb : b_law [some (.val S), none, none, none, none, none, none, none, none] = .rt (.cold (.bool true)) (E (some (.val (.list (LL.map lotD)))) a4 b4) := by
    unfold b_law
    refine (seqNx (r1 := [some (.val S), some (.hot (src a b)), none, none, none, none, none, none, none]) (by simp [eP])).trans ?_
    refine (seqNx (r1 := [some (.val S), some (.hot (src a1 b1)), some (.val g.d), none, none, none, none, none, none]) (by simp [eW])).trans ?_
    refine (seqNx (setB hc1)).trans ?_
    refine (seqNx (r1 := E none a1 b1) ?s4).trans ?_
    case s4 =>
      show sIf _ _ _ (E none a1 b1) = _
      simp [E, eA, rN, nN, eR0, hc2, bTup, neT]
    refine (seqNx (r1 := E (some (.val (.list (LL.map lotD)))) a2 b2) ?s5).trans ?_
    case s5 =>
      rw [eLL]
      have lA : ((((rg g.n).take 3).map fun x => [x]).map lotD).length ≤ 3 := by simp; omega
      have lB : (Ls.map lotD).length = 6 := by rw [List.length_map, hL6]
      generalize ((((rg g.n).take 3).map fun x => [x]).map lotD) = A at hc3 lA ⊢
      generalize Ls.map lotD = B at hc4 lB ⊢
      have f1 := fAddL [PyData.tuple [], lotD (rg g.n)] A (by simp; omega)
      have f2 := fAddL ([PyData.tuple [], lotD (rg g.n)] ++ A) B (by simp; omega)
      show sSet 6 _ (E none a1 b1) = _
      simp only [List.cons_append, List.nil_append] at f1 f2 ⊢
      simp [E, hc3, hc4, f1, f2]
    refine (seqNx (r1 := E (some (.val (.list (LL.map lotD)))) a3 b3) ?s6).trans ?_
    case s6 =>
      show sIf _ _ _ (E (some (.val (.list (LL.map lotD)))) a2 b2) = _
      simp [E, hc5, emptyNe]
    refine (seqNx (r1 := E (some (.val (.list (LL.map lotD)))) a4 b4) ?s7).trans ?_
    case s7 =>
      show sIf _ _ _ (E (some (.val (.list (LL.map lotD)))) a3 b3) = _
      simp [E, x1, x2, eB, eO]
    show sRet _ (E (some (.val (.list (LL.map lotD)))) a4 b4) = _
    simp [E, eD, eU, eqTf]
  unfold f_law
  exact fnRt2 (by simp) (by simp) hb (by simp)
end K01
set_option maxHeartbeats 4000000
namespace K01
open PySem PySem.Spec PyProof.Rows L2 Dn

theorem exmSelf {K : PySem.W.Frag} {C : Addr} {cls : Value} {b : Bool} (h1 : PySem.W.subIn K (.ref C) (.type "BaseException") = some true) (hd : PySem.W.hasDictIn K C = true) (ht : PySem.W.typeIn K (.ref C) = some (.type "type")) (h4 : PySem.W.subIn K cls (.ref C) = some b) : PySem.W.exmOne K cls (.ref C) = some b := PySem.W.exm_ref h1 hd ht h4
theorem at_is_number {K : PySem.W.Frag} {h : Heap} {mg : Str → Option Value} {f : Addr} {od an : Option Addr} {sl : Array (Option Value)} {oc kV dc pm cd ct : Value} (X : K.In h) (G : h.Ns mainGlobals mg) (a : PySem.W.nsIn K mainGlobals "is_number" = some (some (.ref f))) (lk : K.lookup f = some ⟨oc, od, .func (PySem.W.fnOf "is_number" "is_number" (defArgs s_is_number) (defBody s_is_number) (defScope s_is_number) .none kV dc pm an cd ct), sl⟩) (c : PySem.W.codeIn K cd "is_number" = true) (k : PySem.W.keepIn K (.ref f) = true) : At K mg "is_number" s_is_number ["thing"] f cd :=
  ⟨PySem.W.mg_of X G a, k, c, oc, kV, dc, pm, ct, an, od, sl, lk, .all (fun us hl => match us, hl with | [_], _ => rfl), fun s us hl => match us, hl with | [_], _ => .of_eq rfl⟩
theorem at_is_from {K : PySem.W.Frag} {h : Heap} {mg : Str → Option Value} {f : Addr} {od an : Option Addr} {sl : Array (Option Value)} {oc kV dc pm cd ct : Value} (X : K.In h) (G : h.Ns mainGlobals mg) (a : PySem.W.nsIn K mainGlobals "is_from" = some (some (.ref f))) (lk : K.lookup f = some ⟨oc, od, .func (PySem.W.fnOf "is_from" "is_from" (defArgs s_is_from) (defBody s_is_from) (defScope s_is_from) .none kV dc pm an cd ct), sl⟩) (c : PySem.W.codeIn K cd "is_from" = true) (k : PySem.W.keepIn K (.ref f) = true) : At K mg "is_from" s_is_from ["thing", "least", "most"] f cd :=
  ⟨PySem.W.mg_of X G a, k, c, oc, kV, dc, pm, ct, an, od, sl, lk, .all (fun us hl => match us, hl with | [_, _, _], _ => rfl), fun s us hl => match us, hl with | [_, _, _], _ => .of_eq rfl⟩
theorem at_is_tuple_of {K : PySem.W.Frag} {h : Heap} {mg : Str → Option Value} {f : Addr} {od an : Option Addr} {sl : Array (Option Value)} {oc kV dc pm cd ct : Value} (X : K.In h) (G : h.Ns mainGlobals mg) (a : PySem.W.nsIn K mainGlobals "is_tuple_of" = some (some (.ref f))) (lk : K.lookup f = some ⟨oc, od, .func (PySem.W.fnOf "is_tuple_of" "is_tuple_of" (defArgs s_is_tuple_of) (defBody s_is_tuple_of) (defScope s_is_tuple_of) .none kV dc pm an cd ct), sl⟩) (c : PySem.W.codeIn K cd "is_tuple_of" = true) (k : PySem.W.keepIn K (.ref f) = true) : At K mg "is_tuple_of" s_is_tuple_of ["thing", "least", "most"] f cd :=
  ⟨PySem.W.mg_of X G a, k, c, oc, kV, dc, pm, ct, an, od, sl, lk, .all (fun us hl => match us, hl with | [_, _, _], _ => rfl), fun s us hl => match us, hl with | [_, _, _], _ => .of_eq rfl⟩
theorem at_is_ascending {K : PySem.W.Frag} {h : Heap} {mg : Str → Option Value} {f : Addr} {od an : Option Addr} {sl : Array (Option Value)} {oc kV dc pm cd ct : Value} (X : K.In h) (G : h.Ns mainGlobals mg) (a : PySem.W.nsIn K mainGlobals "is_ascending" = some (some (.ref f))) (lk : K.lookup f = some ⟨oc, od, .func (PySem.W.fnOf "is_ascending" "is_ascending" (defArgs s_is_ascending) (defBody s_is_ascending) (defScope s_is_ascending) .none kV dc pm an cd ct), sl⟩) (c : PySem.W.codeIn K cd "is_ascending" = true) (k : PySem.W.keepIn K (.ref f) = true) : At K mg "is_ascending" s_is_ascending ["thing", "many"] f cd :=
  ⟨PySem.W.mg_of X G a, k, c, oc, kV, dc, pm, ct, an, od, sl, lk, .all (fun us hl => match us, hl with | [_, _], _ => rfl), fun s us hl => match us, hl with | [_, _], _ => .of_eq rfl⟩
theorem at_wrong_cures {K : PySem.W.Frag} {h : Heap} {mg : Str → Option Value} {f : Addr} {od an : Option Addr} {sl : Array (Option Value)} {oc kV dc pm cd ct : Value} (X : K.In h) (G : h.Ns mainGlobals mg) (a : PySem.W.nsIn K mainGlobals "wrong_cures" = some (some (.ref f))) (lk : K.lookup f = some ⟨oc, od, .func (PySem.W.fnOf "wrong_cures" "wrong_cures" (defArgs s_wrong_cures) (defBody s_wrong_cures) (defScope s_wrong_cures) .none kV dc pm an cd ct), sl⟩) (c : PySem.W.codeIn K cd "wrong_cures" = true) (k : PySem.W.keepIn K (.ref f) = true) : At K mg "wrong_cures" s_wrong_cures ["cures", "n", "q"] f cd :=
  ⟨PySem.W.mg_of X G a, k, c, oc, kV, dc, pm, ct, an, od, sl, lk, .all (fun us hl => match us, hl with | [_, _, _], _ => rfl), fun s us hl => match us, hl with | [_, _, _], _ => .of_eq rfl⟩
theorem at_are_signs {K : PySem.W.Frag} {h : Heap} {mg : Str → Option Value} {f : Addr} {od an : Option Addr} {sl : Array (Option Value)} {oc kV dc pm cd ct : Value} (X : K.In h) (G : h.Ns mainGlobals mg) (a : PySem.W.nsIn K mainGlobals "are_signs" = some (some (.ref f))) (lk : K.lookup f = some ⟨oc, od, .func (PySem.W.fnOf "are_signs" "are_signs" (defArgs s_are_signs) (defBody s_are_signs) (defScope s_are_signs) .none kV dc pm an cd ct), sl⟩) (c : PySem.W.codeIn K cd "are_signs" = true) (k : PySem.W.keepIn K (.ref f) = true) : At K mg "are_signs" s_are_signs ["entry", "n"] f cd :=
  ⟨PySem.W.mg_of X G a, k, c, oc, kV, dc, pm, ct, an, od, sl, lk, .all (fun us hl => match us, hl with | [_, _], _ => rfl), fun s us hl => match us, hl with | [_, _], _ => .of_eq rfl⟩
theorem at_wrong_signs {K : PySem.W.Frag} {h : Heap} {mg : Str → Option Value} {f : Addr} {od an : Option Addr} {sl : Array (Option Value)} {oc kV dc pm cd ct : Value} (X : K.In h) (G : h.Ns mainGlobals mg) (a : PySem.W.nsIn K mainGlobals "wrong_signs" = some (some (.ref f))) (lk : K.lookup f = some ⟨oc, od, .func (PySem.W.fnOf "wrong_signs" "wrong_signs" (defArgs s_wrong_signs) (defBody s_wrong_signs) (defScope s_wrong_signs) .none kV dc pm an cd ct), sl⟩) (c : PySem.W.codeIn K cd "wrong_signs" = true) (k : PySem.W.keepIn K (.ref f) = true) : At K mg "wrong_signs" s_wrong_signs ["signs", "n"] f cd :=
  ⟨PySem.W.mg_of X G a, k, c, oc, kV, dc, pm, ct, an, od, sl, lk, .all (fun us hl => match us, hl with | [_, _], _ => rfl), fun s us hl => match us, hl with | [_, _], _ => .of_eq rfl⟩
theorem at_wrong_moves {K : PySem.W.Frag} {h : Heap} {mg : Str → Option Value} {f : Addr} {od an : Option Addr} {sl : Array (Option Value)} {oc kV dc pm cd ct : Value} (X : K.In h) (G : h.Ns mainGlobals mg) (a : PySem.W.nsIn K mainGlobals "wrong_moves" = some (some (.ref f))) (lk : K.lookup f = some ⟨oc, od, .func (PySem.W.fnOf "wrong_moves" "wrong_moves" (defArgs s_wrong_moves) (defBody s_wrong_moves) (defScope s_wrong_moves) .none kV dc pm an cd ct), sl⟩) (c : PySem.W.codeIn K cd "wrong_moves" = true) (k : PySem.W.keepIn K (.ref f) = true) : At K mg "wrong_moves" s_wrong_moves ["moves", "settings"] f cd :=
  ⟨PySem.W.mg_of X G a, k, c, oc, kV, dc, pm, ct, an, od, sl, lk, .all (fun us hl => match us, hl with | [_, _], _ => rfl), fun s us hl => match us, hl with | [_, _], _ => .of_eq rfl⟩
theorem at_wrong_place {K : PySem.W.Frag} {h : Heap} {mg : Str → Option Value} {f : Addr} {od an : Option Addr} {sl : Array (Option Value)} {oc kV dc pm cd ct : Value} (X : K.In h) (G : h.Ns mainGlobals mg) (a : PySem.W.nsIn K mainGlobals "wrong_place" = some (some (.ref f))) (lk : K.lookup f = some ⟨oc, od, .func (PySem.W.fnOf "wrong_place" "wrong_place" (defArgs s_wrong_place) (defBody s_wrong_place) (defScope s_wrong_place) .none kV dc pm an cd ct), sl⟩) (c : PySem.W.codeIn K cd "wrong_place" = true) (k : PySem.W.keepIn K (.ref f) = true) : At K mg "wrong_place" s_wrong_place ["thing"] f cd :=
  ⟨PySem.W.mg_of X G a, k, c, oc, kV, dc, pm, ct, an, od, sl, lk, .all (fun us hl => match us, hl with | [_], _ => rfl), fun s us hl => match us, hl with | [_], _ => .of_eq rfl⟩
theorem at_made_rig {K : PySem.W.Frag} {h : Heap} {mg : Str → Option Value} {f : Addr} {od an : Option Addr} {sl : Array (Option Value)} {oc kV dc pm cd ct : Value} (X : K.In h) (G : h.Ns mainGlobals mg) (a : PySem.W.nsIn K mainGlobals "made_rig" = some (some (.ref f))) (lk : K.lookup f = some ⟨oc, od, .func (PySem.W.fnOf "made_rig" "made_rig" (defArgs s_made_rig) (defBody s_made_rig) (defScope s_made_rig) .none kV dc pm an cd ct), sl⟩) (c : PySem.W.codeIn K cd "made_rig" = true) (k : PySem.W.keepIn K (.ref f) = true) : At K mg "made_rig" s_made_rig ["thing"] f cd :=
  ⟨PySem.W.mg_of X G a, k, c, oc, kV, dc, pm, ct, an, od, sl, lk, .all (fun us hl => match us, hl with | [_], _ => rfl), fun s us hl => match us, hl with | [_], _ => .of_eq rfl⟩
theorem at_check_lot {K : PySem.W.Frag} {h : Heap} {mg : Str → Option Value} {f : Addr} {od an : Option Addr} {sl : Array (Option Value)} {oc kV dc pm cd ct : Value} (X : K.In h) (G : h.Ns mainGlobals mg) (a : PySem.W.nsIn K mainGlobals "check_lot" = some (some (.ref f))) (lk : K.lookup f = some ⟨oc, od, .func (PySem.W.fnOf "check_lot" "check_lot" (defArgs s_check_lot) (defBody s_check_lot) (defScope s_check_lot) .none kV dc pm an cd ct), sl⟩) (c : PySem.W.codeIn K cd "check_lot" = true) (k : PySem.W.keepIn K (.ref f) = true) : At K mg "check_lot" s_check_lot ["rig", "lot"] f cd :=
  ⟨PySem.W.mg_of X G a, k, c, oc, kV, dc, pm, ct, an, od, sl, lk, .all (fun us hl => match us, hl with | [_, _], _ => rfl), fun s us hl => match us, hl with | [_, _], _ => .of_eq rfl⟩
theorem at_check_rig_and_lot {K : PySem.W.Frag} {h : Heap} {mg : Str → Option Value} {f : Addr} {od an : Option Addr} {sl : Array (Option Value)} {oc kV dc pm cd ct : Value} (X : K.In h) (G : h.Ns mainGlobals mg) (a : PySem.W.nsIn K mainGlobals "check_rig_and_lot" = some (some (.ref f))) (lk : K.lookup f = some ⟨oc, od, .func (PySem.W.fnOf "check_rig_and_lot" "check_rig_and_lot" (defArgs s_check_rig_and_lot) (defBody s_check_rig_and_lot) (defScope s_check_rig_and_lot) .none kV dc pm an cd ct), sl⟩) (c : PySem.W.codeIn K cd "check_rig_and_lot" = true) (k : PySem.W.keepIn K (.ref f) = true) : At K mg "check_rig_and_lot" s_check_rig_and_lot ["rig", "lot"] f cd :=
  ⟨PySem.W.mg_of X G a, k, c, oc, kV, dc, pm, ct, an, od, sl, lk, .all (fun us hl => match us, hl with | [_, _], _ => rfl), fun s us hl => match us, hl with | [_, _], _ => .of_eq rfl⟩
theorem at_every_fault {K : PySem.W.Frag} {h : Heap} {mg : Str → Option Value} {f : Addr} {od an : Option Addr} {sl : Array (Option Value)} {oc kV dc pm cd ct : Value} (X : K.In h) (G : h.Ns mainGlobals mg) (a : PySem.W.nsIn K mainGlobals "every_fault" = some (some (.ref f))) (lk : K.lookup f = some ⟨oc, od, .func (PySem.W.fnOf "every_fault" "every_fault" (defArgs s_every_fault) (defBody s_every_fault) (defScope s_every_fault) .none kV dc pm an cd ct), sl⟩) (c : PySem.W.codeIn K cd "every_fault" = true) (k : PySem.W.keepIn K (.ref f) = true) : At K mg "every_fault" s_every_fault ["rig"] f cd :=
  ⟨PySem.W.mg_of X G a, k, c, oc, kV, dc, pm, ct, an, od, sl, lk, .all (fun us hl => match us, hl with | [_], _ => rfl), fun s us hl => match us, hl with | [_], _ => .of_eq rfl⟩
theorem at_all_faults {K : PySem.W.Frag} {h : Heap} {mg : Str → Option Value} {f : Addr} {od an : Option Addr} {sl : Array (Option Value)} {oc kV dc pm cd ct : Value} (X : K.In h) (G : h.Ns mainGlobals mg) (a : PySem.W.nsIn K mainGlobals "all_faults" = some (some (.ref f))) (lk : K.lookup f = some ⟨oc, od, .func (PySem.W.fnOf "all_faults" "all_faults" (defArgs s_all_faults) (defBody s_all_faults) (defScope s_all_faults) .none kV dc pm an cd ct), sl⟩) (c : PySem.W.codeIn K cd "all_faults" = true) (k : PySem.W.keepIn K (.ref f) = true) : At K mg "all_faults" s_all_faults ["rig"] f cd :=
  ⟨PySem.W.mg_of X G a, k, c, oc, kV, dc, pm, ct, an, od, sl, lk, .all (fun us hl => match us, hl with | [_], _ => rfl), fun s us hl => match us, hl with | [_], _ => .of_eq rfl⟩
theorem at_common_remedies {K : PySem.W.Frag} {h : Heap} {mg : Str → Option Value} {f : Addr} {od an : Option Addr} {sl : Array (Option Value)} {oc kV dc pm cd ct : Value} (X : K.In h) (G : h.Ns mainGlobals mg) (a : PySem.W.nsIn K mainGlobals "common_remedies" = some (some (.ref f))) (lk : K.lookup f = some ⟨oc, od, .func (PySem.W.fnOf "common_remedies" "common_remedies" (defArgs s_common_remedies) (defBody s_common_remedies) (defScope s_common_remedies) .none kV dc pm an cd ct), sl⟩) (c : PySem.W.codeIn K cd "common_remedies" = true) (k : PySem.W.keepIn K (.ref f) = true) : At K mg "common_remedies" s_common_remedies ["rig", "lot"] f cd :=
  ⟨PySem.W.mg_of X G a, k, c, oc, kV, dc, pm, ct, an, od, sl, lk, .all (fun us hl => match us, hl with | [_, _], _ => rfl), fun s us hl => match us, hl with | [_, _], _ => .of_eq rfl⟩
theorem at_remedies_for {K : PySem.W.Frag} {h : Heap} {mg : Str → Option Value} {f : Addr} {od an : Option Addr} {sl : Array (Option Value)} {oc kV dc pm cd ct : Value} (X : K.In h) (G : h.Ns mainGlobals mg) (a : PySem.W.nsIn K mainGlobals "remedies_for" = some (some (.ref f))) (lk : K.lookup f = some ⟨oc, od, .func (PySem.W.fnOf "remedies_for" "remedies_for" (defArgs s_remedies_for) (defBody s_remedies_for) (defScope s_remedies_for) .none kV dc pm an cd ct), sl⟩) (c : PySem.W.codeIn K cd "remedies_for" = true) (k : PySem.W.keepIn K (.ref f) = true) : At K mg "remedies_for" s_remedies_for ["rig", "lot"] f cd :=
  ⟨PySem.W.mg_of X G a, k, c, oc, kV, dc, pm, ct, an, od, sl, lk, .all (fun us hl => match us, hl with | [_, _], _ => rfl), fun s us hl => match us, hl with | [_, _], _ => .of_eq rfl⟩
theorem at_done {K : PySem.W.Frag} {h : Heap} {mg : Str → Option Value} {f : Addr} {od an : Option Addr} {sl : Array (Option Value)} {oc kV dc pm cd ct : Value} (X : K.In h) (G : h.Ns mainGlobals mg) (a : PySem.W.nsIn K mainGlobals "done" = some (some (.ref f))) (lk : K.lookup f = some ⟨oc, od, .func (PySem.W.fnOf "done" "done" (defArgs s_done) (defBody s_done) (defScope s_done) .none kV dc pm an cd ct), sl⟩) (c : PySem.W.codeIn K cd "done" = true) (k : PySem.W.keepIn K (.ref f) = true) : At K mg "done" s_done ["rig", "lot"] f cd :=
  ⟨PySem.W.mg_of X G a, k, c, oc, kV, dc, pm, ct, an, od, sl, lk, .all (fun us hl => match us, hl with | [_, _], _ => rfl), fun s us hl => match us, hl with | [_, _], _ => .of_eq rfl⟩
theorem at_law_pool {K : PySem.W.Frag} {h : Heap} {mg : Str → Option Value} {f : Addr} {od an : Option Addr} {sl : Array (Option Value)} {oc kV dc pm cd ct : Value} (X : K.In h) (G : h.Ns mainGlobals mg) (a : PySem.W.nsIn K mainGlobals "_law_pool" = some (some (.ref f))) (lk : K.lookup f = some ⟨oc, od, .func (PySem.W.fnOf "_law_pool" "_law_pool" (defArgs s_law_pool) (defBody s_law_pool) (defScope s_law_pool) .none kV dc pm an cd ct), sl⟩) (c : PySem.W.codeIn K cd "_law_pool" = true) (k : PySem.W.keepIn K (.ref f) = true) : At K mg "_law_pool" s_law_pool ["script", "k"] f cd :=
  ⟨PySem.W.mg_of X G a, k, c, oc, kV, dc, pm, ct, an, od, sl, lk, .all (fun us hl => match us, hl with | [_, _], _ => rfl), fun s us hl => match us, hl with | [_, _], _ => .of_eq rfl⟩
theorem at_law_take {K : PySem.W.Frag} {h : Heap} {mg : Str → Option Value} {f : Addr} {od an : Option Addr} {sl : Array (Option Value)} {oc kV dc pm cd ct : Value} (X : K.In h) (G : h.Ns mainGlobals mg) (a : PySem.W.nsIn K mainGlobals "_law_take" = some (some (.ref f))) (lk : K.lookup f = some ⟨oc, od, .func (PySem.W.fnOf "_law_take" "_law_take" (defArgs s_law_take) (defBody s_law_take) (defScope s_law_take) .none kV dc pm an cd ct), sl⟩) (c : PySem.W.codeIn K cd "_law_take" = true) (k : PySem.W.keepIn K (.ref f) = true) : At K mg "_law_take" s_law_take ["source", "top"] f cd :=
  ⟨PySem.W.mg_of X G a, k, c, oc, kV, dc, pm, ct, an, od, sl, lk, .all (fun us hl => match us, hl with | [_, _], _ => rfl), fun s us hl => match us, hl with | [_, _], _ => .of_eq rfl⟩
theorem at_law_one {K : PySem.W.Frag} {h : Heap} {mg : Str → Option Value} {f : Addr} {od an : Option Addr} {sl : Array (Option Value)} {oc kV dc pm cd ct : Value} (X : K.In h) (G : h.Ns mainGlobals mg) (a : PySem.W.nsIn K mainGlobals "_law_one" = some (some (.ref f))) (lk : K.lookup f = some ⟨oc, od, .func (PySem.W.fnOf "_law_one" "_law_one" (defArgs s_law_one) (defBody s_law_one) (defScope s_law_one) .none kV dc pm an cd ct), sl⟩) (c : PySem.W.codeIn K cd "_law_one" = true) (k : PySem.W.keepIn K (.ref f) = true) : At K mg "_law_one" s_law_one ["source", "things"] f cd :=
  ⟨PySem.W.mg_of X G a, k, c, oc, kV, dc, pm, ct, an, od, sl, lk, .all (fun us hl => match us, hl with | [_, _], _ => rfl), fun s us hl => match us, hl with | [_, _], _ => .of_eq rfl⟩
theorem at_law_some {K : PySem.W.Frag} {h : Heap} {mg : Str → Option Value} {f : Addr} {od an : Option Addr} {sl : Array (Option Value)} {oc kV dc pm cd ct : Value} (X : K.In h) (G : h.Ns mainGlobals mg) (a : PySem.W.nsIn K mainGlobals "_law_some" = some (some (.ref f))) (lk : K.lookup f = some ⟨oc, od, .func (PySem.W.fnOf "_law_some" "_law_some" (defArgs s_law_some) (defBody s_law_some) (defScope s_law_some) .none kV dc pm an cd ct), sl⟩) (c : PySem.W.codeIn K cd "_law_some" = true) (k : PySem.W.keepIn K (.ref f) = true) : At K mg "_law_some" s_law_some ["source", "things"] f cd :=
  ⟨PySem.W.mg_of X G a, k, c, oc, kV, dc, pm, ct, an, od, sl, lk, .all (fun us hl => match us, hl with | [_, _], _ => rfl), fun s us hl => match us, hl with | [_, _], _ => .of_eq rfl⟩
theorem at_law_wide_rig {K : PySem.W.Frag} {h : Heap} {mg : Str → Option Value} {f : Addr} {od an : Option Addr} {sl : Array (Option Value)} {oc kV dc pm cd ct : Value} (X : K.In h) (G : h.Ns mainGlobals mg) (a : PySem.W.nsIn K mainGlobals "_law_wide_rig" = some (some (.ref f))) (lk : K.lookup f = some ⟨oc, od, .func (PySem.W.fnOf "_law_wide_rig" "_law_wide_rig" (defArgs s_law_wide_rig) (defBody s_law_wide_rig) (defScope s_law_wide_rig) .none kV dc pm an cd ct), sl⟩) (c : PySem.W.codeIn K cd "_law_wide_rig" = true) (k : PySem.W.keepIn K (.ref f) = true) : At K mg "_law_wide_rig" s_law_wide_rig ["source"] f cd :=
  ⟨PySem.W.mg_of X G a, k, c, oc, kV, dc, pm, ct, an, od, sl, lk, .all (fun us hl => match us, hl with | [_], _ => rfl), fun s us hl => match us, hl with | [_], _ => .of_eq rfl⟩
theorem at_law_due_remedies {K : PySem.W.Frag} {h : Heap} {mg : Str → Option Value} {f : Addr} {od an : Option Addr} {sl : Array (Option Value)} {oc kV dc pm cd ct : Value} (X : K.In h) (G : h.Ns mainGlobals mg) (a : PySem.W.nsIn K mainGlobals "_law_due_remedies" = some (some (.ref f))) (lk : K.lookup f = some ⟨oc, od, .func (PySem.W.fnOf "_law_due_remedies" "_law_due_remedies" (defArgs s_law_due_remedies) (defBody s_law_due_remedies) (defScope s_law_due_remedies) .none kV dc pm an cd ct), sl⟩) (c : PySem.W.codeIn K cd "_law_due_remedies" = true) (k : PySem.W.keepIn K (.ref f) = true) : At K mg "_law_due_remedies" s_law_due_remedies ["rig", "lot"] f cd :=
  ⟨PySem.W.mg_of X G a, k, c, oc, kV, dc, pm, ct, an, od, sl, lk, .all (fun us hl => match us, hl with | [_, _], _ => rfl), fun s us hl => match us, hl with | [_, _], _ => .of_eq rfl⟩
theorem at_law_lot_right {K : PySem.W.Frag} {h : Heap} {mg : Str → Option Value} {f : Addr} {od an : Option Addr} {sl : Array (Option Value)} {oc kV dc pm cd ct : Value} (X : K.In h) (G : h.Ns mainGlobals mg) (a : PySem.W.nsIn K mainGlobals "_law_lot_right" = some (some (.ref f))) (lk : K.lookup f = some ⟨oc, od, .func (PySem.W.fnOf "_law_lot_right" "_law_lot_right" (defArgs s_law_lot_right) (defBody s_law_lot_right) (defScope s_law_lot_right) .none kV dc pm an cd ct), sl⟩) (c : PySem.W.codeIn K cd "_law_lot_right" = true) (k : PySem.W.keepIn K (.ref f) = true) : At K mg "_law_lot_right" s_law_lot_right ["source", "rig", "lot"] f cd :=
  ⟨PySem.W.mg_of X G a, k, c, oc, kV, dc, pm, ct, an, od, sl, lk, .all (fun us hl => match us, hl with | [_, _, _], _ => rfl), fun s us hl => match us, hl with | [_, _, _], _ => .of_eq rfl⟩
theorem at_law_both_right {K : PySem.W.Frag} {h : Heap} {mg : Str → Option Value} {f : Addr} {od an : Option Addr} {sl : Array (Option Value)} {oc kV dc pm cd ct : Value} (X : K.In h) (G : h.Ns mainGlobals mg) (a : PySem.W.nsIn K mainGlobals "_law_both_right" = some (some (.ref f))) (lk : K.lookup f = some ⟨oc, od, .func (PySem.W.fnOf "_law_both_right" "_law_both_right" (defArgs s_law_both_right) (defBody s_law_both_right) (defScope s_law_both_right) .none kV dc pm an cd ct), sl⟩) (c : PySem.W.codeIn K cd "_law_both_right" = true) (k : PySem.W.keepIn K (.ref f) = true) : At K mg "_law_both_right" s_law_both_right ["rig", "one", "two"] f cd :=
  ⟨PySem.W.mg_of X G a, k, c, oc, kV, dc, pm, ct, an, od, sl, lk, .all (fun us hl => match us, hl with | [_, _, _], _ => rfl), fun s us hl => match us, hl with | [_, _, _], _ => .of_eq rfl⟩
theorem at_law_is_refused {K : PySem.W.Frag} {h : Heap} {mg : Str → Option Value} {f : Addr} {od an : Option Addr} {sl : Array (Option Value)} {oc kV dc pm cd ct : Value} (X : K.In h) (G : h.Ns mainGlobals mg) (a : PySem.W.nsIn K mainGlobals "_law_is_refused" = some (some (.ref f))) (lk : K.lookup f = some ⟨oc, od, .func (PySem.W.fnOf "_law_is_refused" "_law_is_refused" (defArgs s_law_is_refused) (defBody s_law_is_refused) (defScope s_law_is_refused) .none kV dc pm an cd ct), sl⟩) (c : PySem.W.codeIn K cd "_law_is_refused" = true) (k : PySem.W.keepIn K (.ref f) = true) : At K mg "_law_is_refused" s_law_is_refused ["call", "is_lot"] f cd :=
  ⟨PySem.W.mg_of X G a, k, c, oc, kV, dc, pm, ct, an, od, sl, lk, .all (fun us hl => match us, hl with | [_, _], _ => rfl), fun s us hl => match us, hl with | [_, _], _ => .of_eq rfl⟩
theorem at_law_odd_right {K : PySem.W.Frag} {h : Heap} {mg : Str → Option Value} {f : Addr} {od an : Option Addr} {sl : Array (Option Value)} {oc kV dc pm cd ct : Value} (X : K.In h) (G : h.Ns mainGlobals mg) (a : PySem.W.nsIn K mainGlobals "_law_odd_right" = some (some (.ref f))) (lk : K.lookup f = some ⟨oc, od, .func (PySem.W.fnOf "_law_odd_right" "_law_odd_right" (defArgs s_law_odd_right) (defBody s_law_odd_right) (defScope s_law_odd_right) .none kV dc pm an cd ct), sl⟩) (c : PySem.W.codeIn K cd "_law_odd_right" = true) (k : PySem.W.keepIn K (.ref f) = true) : At K mg "_law_odd_right" s_law_odd_right ["source", "rig"] f cd :=
  ⟨PySem.W.mg_of X G a, k, c, oc, kV, dc, pm, ct, an, od, sl, lk, .all (fun us hl => match us, hl with | [_, _], _ => rfl), fun s us hl => match us, hl with | [_, _], _ => .of_eq rfl⟩
theorem at_law {K : PySem.W.Frag} {h : Heap} {mg : Str → Option Value} {f : Addr} {od an : Option Addr} {sl : Array (Option Value)} {oc kV dc pm cd ct : Value} (X : K.In h) (G : h.Ns mainGlobals mg) (a : PySem.W.nsIn K mainGlobals "law" = some (some (.ref f))) (lk : K.lookup f = some ⟨oc, od, .func (PySem.W.fnOf "law" "law" (defArgs s_law) (defBody s_law) (defScope s_law) .none kV dc pm an cd ct), sl⟩) (c : PySem.W.codeIn K cd "law" = true) (k : PySem.W.keepIn K (.ref f) = true) : At K mg "law" s_law ["script"] f cd :=
  ⟨PySem.W.mg_of X G a, k, c, oc, kV, dc, pm, ct, an, od, sl, lk, .all (fun us hl => match us, hl with | [_], _ => rfl), fun s us hl => match us, hl with | [_], _ => .of_eq rfl⟩
theorem all_mk {l : PySem.W.OpenLaw} {w : World} {K : PySem.W.Frag} {h : Heap} {mg : Str → Option Value} {fa : Addr} (X : K.In h) (G : h.Ns mainGlobals mg) (hfa : mg "law" = some (.ref fa)) (TT : ∀ y ∈ (["_law_odd_right"] : List Str), ∀ c P, PySem.W.tabIn K y = some (c, P) → PySem.W.CodeHd h c P ∧ h.get? P = some tabObj0)
    {C_Refused : Addr} {nm_Refused q_Refused : Str} {N_Refused : Addr} {bs_Refused : List Value} {sn_Refused : List Str} {sub_Refused : List Value} {ab_Refused : Bool} {col_Refused : Option Bool} {dd_Refused : Option Addr} {m0_Refused m1_Refused m3_Refused m5_Refused : Option Value} {kn_Refused : Str} {kt_Refused : Tok}
    {C_BadLot : Addr} {nm_BadLot q_BadLot : Str} {N_BadLot : Addr} {bs_BadLot : List Value} {sn_BadLot : List Str} {sub_BadLot : List Value} {ab_BadLot : Bool} {col_BadLot : Option Bool} {dd_BadLot : Option Addr} {m0_BadLot m1_BadLot m3_BadLot m5_BadLot : Option Value} {kn_BadLot : Str} {kt_BadLot : Tok}
    {C_BadRig : Addr} {nm_BadRig q_BadRig : Str} {N_BadRig : Addr} {bs_BadRig : List Value} {sn_BadRig : List Str} {sub_BadRig : List Value} {ab_BadRig : Bool} {col_BadRig : Option Bool} {dd_BadRig : Option Addr} {m0_BadRig m1_BadRig m3_BadRig m5_BadRig : Option Value} {kn_BadRig : Str} {kt_BadRig : Tok}
    {fI : Addr} {odI anI : Option Addr} {slI : Array (Option Value)} {ocI dcI pmI cdI ctI : Value}
    {f_is_number_ : Addr} {od_is_number an_is_number : Option Addr} {sl_is_number : Array (Option Value)} {oc_is_number kV_is_number dc_is_number pm_is_number ct_is_number : Value} {cd_is_number : Value}
    {f_is_from_ : Addr} {od_is_from an_is_from : Option Addr} {sl_is_from : Array (Option Value)} {oc_is_from kV_is_from dc_is_from pm_is_from ct_is_from : Value} {cd_is_from : Value}
    {f_is_tuple_of_ : Addr} {od_is_tuple_of an_is_tuple_of : Option Addr} {sl_is_tuple_of : Array (Option Value)} {oc_is_tuple_of kV_is_tuple_of dc_is_tuple_of pm_is_tuple_of ct_is_tuple_of : Value} {cd_is_tuple_of : Value}
    {f_is_ascending_ : Addr} {od_is_ascending an_is_ascending : Option Addr} {sl_is_ascending : Array (Option Value)} {oc_is_ascending kV_is_ascending dc_is_ascending pm_is_ascending ct_is_ascending : Value} {cd_is_ascending : Value}
    {f_wrong_cures_ : Addr} {od_wrong_cures an_wrong_cures : Option Addr} {sl_wrong_cures : Array (Option Value)} {oc_wrong_cures kV_wrong_cures dc_wrong_cures pm_wrong_cures ct_wrong_cures : Value} {cd_wrong_cures : Value}
    {f_are_signs_ : Addr} {od_are_signs an_are_signs : Option Addr} {sl_are_signs : Array (Option Value)} {oc_are_signs kV_are_signs dc_are_signs pm_are_signs ct_are_signs : Value} {cd_are_signs : Value}
    {f_wrong_signs_ : Addr} {od_wrong_signs an_wrong_signs : Option Addr} {sl_wrong_signs : Array (Option Value)} {oc_wrong_signs kV_wrong_signs dc_wrong_signs pm_wrong_signs ct_wrong_signs : Value} {cd_wrong_signs : Value}
    {f_wrong_moves_ : Addr} {od_wrong_moves an_wrong_moves : Option Addr} {sl_wrong_moves : Array (Option Value)} {oc_wrong_moves kV_wrong_moves dc_wrong_moves pm_wrong_moves ct_wrong_moves : Value} {cd_wrong_moves : Value}
    {f_wrong_place_ : Addr} {od_wrong_place an_wrong_place : Option Addr} {sl_wrong_place : Array (Option Value)} {oc_wrong_place kV_wrong_place dc_wrong_place pm_wrong_place ct_wrong_place : Value} {cd_wrong_place : Value}
    {f_made_rig_ : Addr} {od_made_rig an_made_rig : Option Addr} {sl_made_rig : Array (Option Value)} {oc_made_rig kV_made_rig dc_made_rig pm_made_rig ct_made_rig : Value} {cd_made_rig : Value}
    {f_check_lot_ : Addr} {od_check_lot an_check_lot : Option Addr} {sl_check_lot : Array (Option Value)} {oc_check_lot kV_check_lot dc_check_lot pm_check_lot ct_check_lot : Value} {cd_check_lot : Value}
    {f_check_rig_and_lot_ : Addr} {od_check_rig_and_lot an_check_rig_and_lot : Option Addr} {sl_check_rig_and_lot : Array (Option Value)} {oc_check_rig_and_lot kV_check_rig_and_lot dc_check_rig_and_lot pm_check_rig_and_lot ct_check_rig_and_lot : Value} {cd_check_rig_and_lot : Value}
    {f_every_fault_ : Addr} {od_every_fault an_every_fault : Option Addr} {sl_every_fault : Array (Option Value)} {oc_every_fault kV_every_fault dc_every_fault pm_every_fault ct_every_fault : Value} {cd_every_fault : Value}
    {f_all_faults_ : Addr} {od_all_faults an_all_faults : Option Addr} {sl_all_faults : Array (Option Value)} {oc_all_faults kV_all_faults dc_all_faults pm_all_faults ct_all_faults : Value} {cd_all_faults : Value}
    {f_common_remedies_ : Addr} {od_common_remedies an_common_remedies : Option Addr} {sl_common_remedies : Array (Option Value)} {oc_common_remedies kV_common_remedies dc_common_remedies pm_common_remedies ct_common_remedies : Value} {cd_common_remedies : Value}
    {f_remedies_for_ : Addr} {od_remedies_for an_remedies_for : Option Addr} {sl_remedies_for : Array (Option Value)} {oc_remedies_for kV_remedies_for dc_remedies_for pm_remedies_for ct_remedies_for : Value} {cd_remedies_for : Value}
    {f_done_ : Addr} {od_done an_done : Option Addr} {sl_done : Array (Option Value)} {oc_done kV_done dc_done pm_done ct_done : Value} {cd_done : Value}
    {f_law_pool_ : Addr} {od_law_pool an_law_pool : Option Addr} {sl_law_pool : Array (Option Value)} {oc_law_pool kV_law_pool dc_law_pool pm_law_pool ct_law_pool : Value} {cd_law_pool : Value}
    {f_law_take_ : Addr} {od_law_take an_law_take : Option Addr} {sl_law_take : Array (Option Value)} {oc_law_take kV_law_take dc_law_take pm_law_take ct_law_take : Value} {cd_law_take : Value}
    {f_law_one_ : Addr} {od_law_one an_law_one : Option Addr} {sl_law_one : Array (Option Value)} {oc_law_one kV_law_one dc_law_one pm_law_one ct_law_one : Value} {cd_law_one : Value}
    {f_law_some_ : Addr} {od_law_some an_law_some : Option Addr} {sl_law_some : Array (Option Value)} {oc_law_some kV_law_some dc_law_some pm_law_some ct_law_some : Value} {cd_law_some : Value}
    {f_law_wide_rig_ : Addr} {od_law_wide_rig an_law_wide_rig : Option Addr} {sl_law_wide_rig : Array (Option Value)} {oc_law_wide_rig kV_law_wide_rig dc_law_wide_rig pm_law_wide_rig ct_law_wide_rig : Value} {cd_law_wide_rig : Value}
    {f_law_due_remedies_ : Addr} {od_law_due_remedies an_law_due_remedies : Option Addr} {sl_law_due_remedies : Array (Option Value)} {oc_law_due_remedies kV_law_due_remedies dc_law_due_remedies pm_law_due_remedies ct_law_due_remedies : Value} {cd_law_due_remedies : Value}
    {f_law_lot_right_ : Addr} {od_law_lot_right an_law_lot_right : Option Addr} {sl_law_lot_right : Array (Option Value)} {oc_law_lot_right kV_law_lot_right dc_law_lot_right pm_law_lot_right ct_law_lot_right : Value} {cd_law_lot_right : Value}
    {f_law_both_right_ : Addr} {od_law_both_right an_law_both_right : Option Addr} {sl_law_both_right : Array (Option Value)} {oc_law_both_right kV_law_both_right dc_law_both_right pm_law_both_right ct_law_both_right : Value} {cd_law_both_right : Value}
    {f_law_is_refused_ : Addr} {od_law_is_refused an_law_is_refused : Option Addr} {sl_law_is_refused : Array (Option Value)} {oc_law_is_refused kV_law_is_refused dc_law_is_refused pm_law_is_refused ct_law_is_refused : Value} {cd_law_is_refused : Value}
    {f_law_odd_right_ : Addr} {od_law_odd_right an_law_odd_right : Option Addr} {sl_law_odd_right : Array (Option Value)} {oc_law_odd_right kV_law_odd_right dc_law_odd_right pm_law_odd_right ct_law_odd_right : Value} {c0_law_odd_right P_law_odd_right : Addr}
    {ec_law_odd_right : Value} {edd_law_odd_right : Option Addr} {evs_law_odd_right : Array Value} {esl_law_odd_right : Array (Option Value)}
    {f_law_ : Addr} {od_law an_law : Option Addr} {sl_law : Array (Option Value)} {oc_law kV_law dc_law pm_law ct_law : Value} {cd_law : Value}
    {t_CURES : Tok}
    {t_FAULTS : Tok}
    {t_GREATEST_SIGN : Tok}
    {t_MOST_FAULTS : Tok}
    {t_MOST_MOVES : Tok}
    {t_MOST_REMEDIES : Tok}
    {t_MOST_SETTINGS : Tok}
    {t_MOVES : Tok}
    {t_REMEDIES : Tok}
    {t_SIGNS : Tok}
    (aC_Refused : PySem.W.nsIn K mainGlobals "Refused" = some (some (.ref C_Refused)))
    (xL_Refused : K.lookup C_Refused = some (excClassObj nm_Refused q_Refused C_Refused N_Refused bs_Refused [.type "ValueError", .type "Exception", .type "BaseException", .type "object"] true sn_Refused sub_Refused ab_Refused col_Refused dd_Refused m0_Refused m1_Refused (some (Value.str kn_Refused kt_Refused)) m3_Refused m5_Refused "ValueError.__new__"))
    (sa_Refused : PySem.W.findIn K (.ref C_Refused) "__setattr__" = some (some (.builtin "object.__setattr__")))
    (ga_Refused : PySem.W.findIn K (.ref C_Refused) "__getattribute__" = some (some (.builtin "BaseException.__getattribute__")))
    (gg_Refused : PySem.W.findIn K (.ref C_Refused) "__getattr__" = some none)
    (nb_Refused : PySem.W.findIn K (.ref C_Refused) "what" = some none)
    (nk_Refused : PySem.W.findIn K (.ref C_Refused) "kind" = some none)
    (rk_Refused : PySem.W.readsIn K C_Refused (.type "type") = true)
    (fk_Refused : PySem.W.findCls K (.ref C_Refused) (.type "type") "__name__" = some (.get (.builtin "getset_descriptor.__get__") (.builtin "type.__name__") (.ref C_Refused) (.type "type")))
    (iI_Refused : PySem.W.findIn K (.ref C_Refused) "__init__" = some (some (.ref fI)))
    (kC_Refused : PySem.W.keepIn K (.ref C_Refused) = true)
    (eC_Refused : PySem.W.subIn K (.ref C_Refused) (.type "BaseException") = some true)
    (tC_Refused : PySem.W.typeIn K (.ref C_Refused) = some (.type "type"))
    (hC_Refused : PySem.W.hasDictIn K C_Refused = true)
    (sC_Refused : PySem.W.subIn K (.ref C_Refused) (.ref C_Refused) = some true)
    (cl_Refused : PySem.W.findIn K (.ref C_Refused) "__class__" = some (some (.builtin "object.__class__")))
    (mo_Refused : PySem.W.mroIn K C_Refused (.type "object") = some true)
    (tI : PySem.W.typeIn K (.ref fI) = some (.type "function"))
    (lI : K.lookup fI = some ⟨ocI, odI, .func (PySem.W.fnOf "__init__" "Refused.__init__" (PySem.WhX.iA ⟨4, 17, 4, 21⟩ ⟨4, 23, 4, 27⟩) (PySem.WhX.iB ⟨5, 8, 5, 12⟩ ⟨5, 8, 5, 17⟩ ⟨5, 20, 5, 24⟩ ⟨5, 8, 5, 24⟩ ⟨6, 8, 6, 12⟩ ⟨6, 8, 6, 17⟩ ⟨6, 20, 6, 24⟩ ⟨6, 20, 6, 34⟩ ⟨6, 20, 6, 43⟩ ⟨6, 8, 6, 43⟩) PySem.WhX.iS .none .none dcI pmI anI cdI ctI), slI⟩)
    (cI : PySem.W.codeIn K cdI "Refused.__init__" = true)
    (aC_BadLot : PySem.W.nsIn K mainGlobals "BadLot" = some (some (.ref C_BadLot)))
    (xL_BadLot : K.lookup C_BadLot = some (excClassObj nm_BadLot q_BadLot C_BadLot N_BadLot bs_BadLot [.ref C_Refused, .type "ValueError", .type "Exception", .type "BaseException", .type "object"] true sn_BadLot sub_BadLot ab_BadLot col_BadLot dd_BadLot m0_BadLot m1_BadLot (some (Value.str kn_BadLot kt_BadLot)) m3_BadLot m5_BadLot "ValueError.__new__"))
    (sa_BadLot : PySem.W.findIn K (.ref C_BadLot) "__setattr__" = some (some (.builtin "object.__setattr__")))
    (ga_BadLot : PySem.W.findIn K (.ref C_BadLot) "__getattribute__" = some (some (.builtin "BaseException.__getattribute__")))
    (gg_BadLot : PySem.W.findIn K (.ref C_BadLot) "__getattr__" = some none)
    (nb_BadLot : PySem.W.findIn K (.ref C_BadLot) "what" = some none)
    (nk_BadLot : PySem.W.findIn K (.ref C_BadLot) "kind" = some none)
    (rk_BadLot : PySem.W.readsIn K C_BadLot (.type "type") = true)
    (fk_BadLot : PySem.W.findCls K (.ref C_BadLot) (.type "type") "__name__" = some (.get (.builtin "getset_descriptor.__get__") (.builtin "type.__name__") (.ref C_BadLot) (.type "type")))
    (iI_BadLot : PySem.W.findIn K (.ref C_BadLot) "__init__" = some (some (.ref fI)))
    (kC_BadLot : PySem.W.keepIn K (.ref C_BadLot) = true)
    (eC_BadLot : PySem.W.subIn K (.ref C_BadLot) (.type "BaseException") = some true)
    (tC_BadLot : PySem.W.typeIn K (.ref C_BadLot) = some (.type "type"))
    (hC_BadLot : PySem.W.hasDictIn K C_BadLot = true)
    (sC_BadLot : PySem.W.subIn K (.ref C_BadLot) (.ref C_BadLot) = some true)
    (cl_BadLot : PySem.W.findIn K (.ref C_BadLot) "__class__" = some (some (.builtin "object.__class__")))
    (mo_BadLot : PySem.W.mroIn K C_BadLot (.type "object") = some true)
    (aC_BadRig : PySem.W.nsIn K mainGlobals "BadRig" = some (some (.ref C_BadRig)))
    (xL_BadRig : K.lookup C_BadRig = some (excClassObj nm_BadRig q_BadRig C_BadRig N_BadRig bs_BadRig [.ref C_Refused, .type "ValueError", .type "Exception", .type "BaseException", .type "object"] true sn_BadRig sub_BadRig ab_BadRig col_BadRig dd_BadRig m0_BadRig m1_BadRig (some (Value.str kn_BadRig kt_BadRig)) m3_BadRig m5_BadRig "ValueError.__new__"))
    (sa_BadRig : PySem.W.findIn K (.ref C_BadRig) "__setattr__" = some (some (.builtin "object.__setattr__")))
    (ga_BadRig : PySem.W.findIn K (.ref C_BadRig) "__getattribute__" = some (some (.builtin "BaseException.__getattribute__")))
    (gg_BadRig : PySem.W.findIn K (.ref C_BadRig) "__getattr__" = some none)
    (nb_BadRig : PySem.W.findIn K (.ref C_BadRig) "what" = some none)
    (nk_BadRig : PySem.W.findIn K (.ref C_BadRig) "kind" = some none)
    (rk_BadRig : PySem.W.readsIn K C_BadRig (.type "type") = true)
    (fk_BadRig : PySem.W.findCls K (.ref C_BadRig) (.type "type") "__name__" = some (.get (.builtin "getset_descriptor.__get__") (.builtin "type.__name__") (.ref C_BadRig) (.type "type")))
    (iI_BadRig : PySem.W.findIn K (.ref C_BadRig) "__init__" = some (some (.ref fI)))
    (kC_BadRig : PySem.W.keepIn K (.ref C_BadRig) = true)
    (eC_BadRig : PySem.W.subIn K (.ref C_BadRig) (.type "BaseException") = some true)
    (tC_BadRig : PySem.W.typeIn K (.ref C_BadRig) = some (.type "type"))
    (hC_BadRig : PySem.W.hasDictIn K C_BadRig = true)
    (sC_BadRig : PySem.W.subIn K (.ref C_BadRig) (.ref C_BadRig) = some true)
    (cl_BadRig : PySem.W.findIn K (.ref C_BadRig) "__class__" = some (some (.builtin "object.__class__")))
    (mo_BadRig : PySem.W.mroIn K C_BadRig (.type "object") = some true)
    (sp1 : PySem.W.specialIn K (.builtin "object.__class__") "__get__" = some (some (.builtin "getset_descriptor.__get__")))
    (sp2 : PySem.W.takesIn K (.builtin "object.__class__") = some true)
    (su_BadLot_BadLot : PySem.W.subIn K (.ref C_BadLot) (.ref C_BadLot) = some true)
    (ki_BadLot_BadLot : PySem.W.kitOne K (.ref C_BadLot) (.ref C_BadLot) = some true)
    (su_BadLot_BadRig : PySem.W.subIn K (.ref C_BadLot) (.ref C_BadRig) = some false)
    (ki_BadLot_BadRig : PySem.W.kitOne K (.ref C_BadLot) (.ref C_BadRig) = some false)
    (su_BadLot_Refused : PySem.W.subIn K (.ref C_BadLot) (.ref C_Refused) = some true)
    (ki_BadLot_Refused : PySem.W.kitOne K (.ref C_BadLot) (.ref C_Refused) = some true)
    (su_BadRig_BadLot : PySem.W.subIn K (.ref C_BadRig) (.ref C_BadLot) = some false)
    (ki_BadRig_BadLot : PySem.W.kitOne K (.ref C_BadRig) (.ref C_BadLot) = some false)
    (su_BadRig_BadRig : PySem.W.subIn K (.ref C_BadRig) (.ref C_BadRig) = some true)
    (ki_BadRig_BadRig : PySem.W.kitOne K (.ref C_BadRig) (.ref C_BadRig) = some true)
    (su_BadRig_Refused : PySem.W.subIn K (.ref C_BadRig) (.ref C_Refused) = some true)
    (ki_BadRig_Refused : PySem.W.kitOne K (.ref C_BadRig) (.ref C_Refused) = some true)
    (a_is_number : PySem.W.nsIn K mainGlobals "is_number" = some (some (.ref f_is_number_)))
    (l_is_number : K.lookup f_is_number_ = some ⟨oc_is_number, od_is_number, .func (PySem.W.fnOf "is_number" "is_number" (defArgs s_is_number) (defBody s_is_number) (defScope s_is_number) .none kV_is_number dc_is_number pm_is_number an_is_number cd_is_number ct_is_number), sl_is_number⟩)
    (c_is_number : PySem.W.codeIn K cd_is_number "is_number" = true)
    (k_is_number : PySem.W.keepIn K (.ref f_is_number_) = true)
    (a_is_from : PySem.W.nsIn K mainGlobals "is_from" = some (some (.ref f_is_from_)))
    (l_is_from : K.lookup f_is_from_ = some ⟨oc_is_from, od_is_from, .func (PySem.W.fnOf "is_from" "is_from" (defArgs s_is_from) (defBody s_is_from) (defScope s_is_from) .none kV_is_from dc_is_from pm_is_from an_is_from cd_is_from ct_is_from), sl_is_from⟩)
    (c_is_from : PySem.W.codeIn K cd_is_from "is_from" = true)
    (k_is_from : PySem.W.keepIn K (.ref f_is_from_) = true)
    (a_is_tuple_of : PySem.W.nsIn K mainGlobals "is_tuple_of" = some (some (.ref f_is_tuple_of_)))
    (l_is_tuple_of : K.lookup f_is_tuple_of_ = some ⟨oc_is_tuple_of, od_is_tuple_of, .func (PySem.W.fnOf "is_tuple_of" "is_tuple_of" (defArgs s_is_tuple_of) (defBody s_is_tuple_of) (defScope s_is_tuple_of) .none kV_is_tuple_of dc_is_tuple_of pm_is_tuple_of an_is_tuple_of cd_is_tuple_of ct_is_tuple_of), sl_is_tuple_of⟩)
    (c_is_tuple_of : PySem.W.codeIn K cd_is_tuple_of "is_tuple_of" = true)
    (k_is_tuple_of : PySem.W.keepIn K (.ref f_is_tuple_of_) = true)
    (a_is_ascending : PySem.W.nsIn K mainGlobals "is_ascending" = some (some (.ref f_is_ascending_)))
    (l_is_ascending : K.lookup f_is_ascending_ = some ⟨oc_is_ascending, od_is_ascending, .func (PySem.W.fnOf "is_ascending" "is_ascending" (defArgs s_is_ascending) (defBody s_is_ascending) (defScope s_is_ascending) .none kV_is_ascending dc_is_ascending pm_is_ascending an_is_ascending cd_is_ascending ct_is_ascending), sl_is_ascending⟩)
    (c_is_ascending : PySem.W.codeIn K cd_is_ascending "is_ascending" = true)
    (k_is_ascending : PySem.W.keepIn K (.ref f_is_ascending_) = true)
    (a_wrong_cures : PySem.W.nsIn K mainGlobals "wrong_cures" = some (some (.ref f_wrong_cures_)))
    (l_wrong_cures : K.lookup f_wrong_cures_ = some ⟨oc_wrong_cures, od_wrong_cures, .func (PySem.W.fnOf "wrong_cures" "wrong_cures" (defArgs s_wrong_cures) (defBody s_wrong_cures) (defScope s_wrong_cures) .none kV_wrong_cures dc_wrong_cures pm_wrong_cures an_wrong_cures cd_wrong_cures ct_wrong_cures), sl_wrong_cures⟩)
    (c_wrong_cures : PySem.W.codeIn K cd_wrong_cures "wrong_cures" = true)
    (k_wrong_cures : PySem.W.keepIn K (.ref f_wrong_cures_) = true)
    (a_are_signs : PySem.W.nsIn K mainGlobals "are_signs" = some (some (.ref f_are_signs_)))
    (l_are_signs : K.lookup f_are_signs_ = some ⟨oc_are_signs, od_are_signs, .func (PySem.W.fnOf "are_signs" "are_signs" (defArgs s_are_signs) (defBody s_are_signs) (defScope s_are_signs) .none kV_are_signs dc_are_signs pm_are_signs an_are_signs cd_are_signs ct_are_signs), sl_are_signs⟩)
    (c_are_signs : PySem.W.codeIn K cd_are_signs "are_signs" = true)
    (k_are_signs : PySem.W.keepIn K (.ref f_are_signs_) = true)
    (a_wrong_signs : PySem.W.nsIn K mainGlobals "wrong_signs" = some (some (.ref f_wrong_signs_)))
    (l_wrong_signs : K.lookup f_wrong_signs_ = some ⟨oc_wrong_signs, od_wrong_signs, .func (PySem.W.fnOf "wrong_signs" "wrong_signs" (defArgs s_wrong_signs) (defBody s_wrong_signs) (defScope s_wrong_signs) .none kV_wrong_signs dc_wrong_signs pm_wrong_signs an_wrong_signs cd_wrong_signs ct_wrong_signs), sl_wrong_signs⟩)
    (c_wrong_signs : PySem.W.codeIn K cd_wrong_signs "wrong_signs" = true)
    (k_wrong_signs : PySem.W.keepIn K (.ref f_wrong_signs_) = true)
    (a_wrong_moves : PySem.W.nsIn K mainGlobals "wrong_moves" = some (some (.ref f_wrong_moves_)))
    (l_wrong_moves : K.lookup f_wrong_moves_ = some ⟨oc_wrong_moves, od_wrong_moves, .func (PySem.W.fnOf "wrong_moves" "wrong_moves" (defArgs s_wrong_moves) (defBody s_wrong_moves) (defScope s_wrong_moves) .none kV_wrong_moves dc_wrong_moves pm_wrong_moves an_wrong_moves cd_wrong_moves ct_wrong_moves), sl_wrong_moves⟩)
    (c_wrong_moves : PySem.W.codeIn K cd_wrong_moves "wrong_moves" = true)
    (k_wrong_moves : PySem.W.keepIn K (.ref f_wrong_moves_) = true)
    (a_wrong_place : PySem.W.nsIn K mainGlobals "wrong_place" = some (some (.ref f_wrong_place_)))
    (l_wrong_place : K.lookup f_wrong_place_ = some ⟨oc_wrong_place, od_wrong_place, .func (PySem.W.fnOf "wrong_place" "wrong_place" (defArgs s_wrong_place) (defBody s_wrong_place) (defScope s_wrong_place) .none kV_wrong_place dc_wrong_place pm_wrong_place an_wrong_place cd_wrong_place ct_wrong_place), sl_wrong_place⟩)
    (c_wrong_place : PySem.W.codeIn K cd_wrong_place "wrong_place" = true)
    (k_wrong_place : PySem.W.keepIn K (.ref f_wrong_place_) = true)
    (a_made_rig : PySem.W.nsIn K mainGlobals "made_rig" = some (some (.ref f_made_rig_)))
    (l_made_rig : K.lookup f_made_rig_ = some ⟨oc_made_rig, od_made_rig, .func (PySem.W.fnOf "made_rig" "made_rig" (defArgs s_made_rig) (defBody s_made_rig) (defScope s_made_rig) .none kV_made_rig dc_made_rig pm_made_rig an_made_rig cd_made_rig ct_made_rig), sl_made_rig⟩)
    (c_made_rig : PySem.W.codeIn K cd_made_rig "made_rig" = true)
    (k_made_rig : PySem.W.keepIn K (.ref f_made_rig_) = true)
    (a_check_lot : PySem.W.nsIn K mainGlobals "check_lot" = some (some (.ref f_check_lot_)))
    (l_check_lot : K.lookup f_check_lot_ = some ⟨oc_check_lot, od_check_lot, .func (PySem.W.fnOf "check_lot" "check_lot" (defArgs s_check_lot) (defBody s_check_lot) (defScope s_check_lot) .none kV_check_lot dc_check_lot pm_check_lot an_check_lot cd_check_lot ct_check_lot), sl_check_lot⟩)
    (c_check_lot : PySem.W.codeIn K cd_check_lot "check_lot" = true)
    (k_check_lot : PySem.W.keepIn K (.ref f_check_lot_) = true)
    (a_check_rig_and_lot : PySem.W.nsIn K mainGlobals "check_rig_and_lot" = some (some (.ref f_check_rig_and_lot_)))
    (l_check_rig_and_lot : K.lookup f_check_rig_and_lot_ = some ⟨oc_check_rig_and_lot, od_check_rig_and_lot, .func (PySem.W.fnOf "check_rig_and_lot" "check_rig_and_lot" (defArgs s_check_rig_and_lot) (defBody s_check_rig_and_lot) (defScope s_check_rig_and_lot) .none kV_check_rig_and_lot dc_check_rig_and_lot pm_check_rig_and_lot an_check_rig_and_lot cd_check_rig_and_lot ct_check_rig_and_lot), sl_check_rig_and_lot⟩)
    (c_check_rig_and_lot : PySem.W.codeIn K cd_check_rig_and_lot "check_rig_and_lot" = true)
    (k_check_rig_and_lot : PySem.W.keepIn K (.ref f_check_rig_and_lot_) = true)
    (a_every_fault : PySem.W.nsIn K mainGlobals "every_fault" = some (some (.ref f_every_fault_)))
    (l_every_fault : K.lookup f_every_fault_ = some ⟨oc_every_fault, od_every_fault, .func (PySem.W.fnOf "every_fault" "every_fault" (defArgs s_every_fault) (defBody s_every_fault) (defScope s_every_fault) .none kV_every_fault dc_every_fault pm_every_fault an_every_fault cd_every_fault ct_every_fault), sl_every_fault⟩)
    (c_every_fault : PySem.W.codeIn K cd_every_fault "every_fault" = true)
    (k_every_fault : PySem.W.keepIn K (.ref f_every_fault_) = true)
    (a_all_faults : PySem.W.nsIn K mainGlobals "all_faults" = some (some (.ref f_all_faults_)))
    (l_all_faults : K.lookup f_all_faults_ = some ⟨oc_all_faults, od_all_faults, .func (PySem.W.fnOf "all_faults" "all_faults" (defArgs s_all_faults) (defBody s_all_faults) (defScope s_all_faults) .none kV_all_faults dc_all_faults pm_all_faults an_all_faults cd_all_faults ct_all_faults), sl_all_faults⟩)
    (c_all_faults : PySem.W.codeIn K cd_all_faults "all_faults" = true)
    (k_all_faults : PySem.W.keepIn K (.ref f_all_faults_) = true)
    (a_common_remedies : PySem.W.nsIn K mainGlobals "common_remedies" = some (some (.ref f_common_remedies_)))
    (l_common_remedies : K.lookup f_common_remedies_ = some ⟨oc_common_remedies, od_common_remedies, .func (PySem.W.fnOf "common_remedies" "common_remedies" (defArgs s_common_remedies) (defBody s_common_remedies) (defScope s_common_remedies) .none kV_common_remedies dc_common_remedies pm_common_remedies an_common_remedies cd_common_remedies ct_common_remedies), sl_common_remedies⟩)
    (c_common_remedies : PySem.W.codeIn K cd_common_remedies "common_remedies" = true)
    (k_common_remedies : PySem.W.keepIn K (.ref f_common_remedies_) = true)
    (a_remedies_for : PySem.W.nsIn K mainGlobals "remedies_for" = some (some (.ref f_remedies_for_)))
    (l_remedies_for : K.lookup f_remedies_for_ = some ⟨oc_remedies_for, od_remedies_for, .func (PySem.W.fnOf "remedies_for" "remedies_for" (defArgs s_remedies_for) (defBody s_remedies_for) (defScope s_remedies_for) .none kV_remedies_for dc_remedies_for pm_remedies_for an_remedies_for cd_remedies_for ct_remedies_for), sl_remedies_for⟩)
    (c_remedies_for : PySem.W.codeIn K cd_remedies_for "remedies_for" = true)
    (k_remedies_for : PySem.W.keepIn K (.ref f_remedies_for_) = true)
    (a_done : PySem.W.nsIn K mainGlobals "done" = some (some (.ref f_done_)))
    (l_done : K.lookup f_done_ = some ⟨oc_done, od_done, .func (PySem.W.fnOf "done" "done" (defArgs s_done) (defBody s_done) (defScope s_done) .none kV_done dc_done pm_done an_done cd_done ct_done), sl_done⟩)
    (c_done : PySem.W.codeIn K cd_done "done" = true)
    (k_done : PySem.W.keepIn K (.ref f_done_) = true)
    (a_law_pool : PySem.W.nsIn K mainGlobals "_law_pool" = some (some (.ref f_law_pool_)))
    (l_law_pool : K.lookup f_law_pool_ = some ⟨oc_law_pool, od_law_pool, .func (PySem.W.fnOf "_law_pool" "_law_pool" (defArgs s_law_pool) (defBody s_law_pool) (defScope s_law_pool) .none kV_law_pool dc_law_pool pm_law_pool an_law_pool cd_law_pool ct_law_pool), sl_law_pool⟩)
    (c_law_pool : PySem.W.codeIn K cd_law_pool "_law_pool" = true)
    (k_law_pool : PySem.W.keepIn K (.ref f_law_pool_) = true)
    (a_law_take : PySem.W.nsIn K mainGlobals "_law_take" = some (some (.ref f_law_take_)))
    (l_law_take : K.lookup f_law_take_ = some ⟨oc_law_take, od_law_take, .func (PySem.W.fnOf "_law_take" "_law_take" (defArgs s_law_take) (defBody s_law_take) (defScope s_law_take) .none kV_law_take dc_law_take pm_law_take an_law_take cd_law_take ct_law_take), sl_law_take⟩)
    (c_law_take : PySem.W.codeIn K cd_law_take "_law_take" = true)
    (k_law_take : PySem.W.keepIn K (.ref f_law_take_) = true)
    (a_law_one : PySem.W.nsIn K mainGlobals "_law_one" = some (some (.ref f_law_one_)))
    (l_law_one : K.lookup f_law_one_ = some ⟨oc_law_one, od_law_one, .func (PySem.W.fnOf "_law_one" "_law_one" (defArgs s_law_one) (defBody s_law_one) (defScope s_law_one) .none kV_law_one dc_law_one pm_law_one an_law_one cd_law_one ct_law_one), sl_law_one⟩)
    (c_law_one : PySem.W.codeIn K cd_law_one "_law_one" = true)
    (k_law_one : PySem.W.keepIn K (.ref f_law_one_) = true)
    (a_law_some : PySem.W.nsIn K mainGlobals "_law_some" = some (some (.ref f_law_some_)))
    (l_law_some : K.lookup f_law_some_ = some ⟨oc_law_some, od_law_some, .func (PySem.W.fnOf "_law_some" "_law_some" (defArgs s_law_some) (defBody s_law_some) (defScope s_law_some) .none kV_law_some dc_law_some pm_law_some an_law_some cd_law_some ct_law_some), sl_law_some⟩)
    (c_law_some : PySem.W.codeIn K cd_law_some "_law_some" = true)
    (k_law_some : PySem.W.keepIn K (.ref f_law_some_) = true)
    (a_law_wide_rig : PySem.W.nsIn K mainGlobals "_law_wide_rig" = some (some (.ref f_law_wide_rig_)))
    (l_law_wide_rig : K.lookup f_law_wide_rig_ = some ⟨oc_law_wide_rig, od_law_wide_rig, .func (PySem.W.fnOf "_law_wide_rig" "_law_wide_rig" (defArgs s_law_wide_rig) (defBody s_law_wide_rig) (defScope s_law_wide_rig) .none kV_law_wide_rig dc_law_wide_rig pm_law_wide_rig an_law_wide_rig cd_law_wide_rig ct_law_wide_rig), sl_law_wide_rig⟩)
    (c_law_wide_rig : PySem.W.codeIn K cd_law_wide_rig "_law_wide_rig" = true)
    (k_law_wide_rig : PySem.W.keepIn K (.ref f_law_wide_rig_) = true)
    (a_law_due_remedies : PySem.W.nsIn K mainGlobals "_law_due_remedies" = some (some (.ref f_law_due_remedies_)))
    (l_law_due_remedies : K.lookup f_law_due_remedies_ = some ⟨oc_law_due_remedies, od_law_due_remedies, .func (PySem.W.fnOf "_law_due_remedies" "_law_due_remedies" (defArgs s_law_due_remedies) (defBody s_law_due_remedies) (defScope s_law_due_remedies) .none kV_law_due_remedies dc_law_due_remedies pm_law_due_remedies an_law_due_remedies cd_law_due_remedies ct_law_due_remedies), sl_law_due_remedies⟩)
    (c_law_due_remedies : PySem.W.codeIn K cd_law_due_remedies "_law_due_remedies" = true)
    (k_law_due_remedies : PySem.W.keepIn K (.ref f_law_due_remedies_) = true)
    (a_law_lot_right : PySem.W.nsIn K mainGlobals "_law_lot_right" = some (some (.ref f_law_lot_right_)))
    (l_law_lot_right : K.lookup f_law_lot_right_ = some ⟨oc_law_lot_right, od_law_lot_right, .func (PySem.W.fnOf "_law_lot_right" "_law_lot_right" (defArgs s_law_lot_right) (defBody s_law_lot_right) (defScope s_law_lot_right) .none kV_law_lot_right dc_law_lot_right pm_law_lot_right an_law_lot_right cd_law_lot_right ct_law_lot_right), sl_law_lot_right⟩)
    (c_law_lot_right : PySem.W.codeIn K cd_law_lot_right "_law_lot_right" = true)
    (k_law_lot_right : PySem.W.keepIn K (.ref f_law_lot_right_) = true)
    (a_law_both_right : PySem.W.nsIn K mainGlobals "_law_both_right" = some (some (.ref f_law_both_right_)))
    (l_law_both_right : K.lookup f_law_both_right_ = some ⟨oc_law_both_right, od_law_both_right, .func (PySem.W.fnOf "_law_both_right" "_law_both_right" (defArgs s_law_both_right) (defBody s_law_both_right) (defScope s_law_both_right) .none kV_law_both_right dc_law_both_right pm_law_both_right an_law_both_right cd_law_both_right ct_law_both_right), sl_law_both_right⟩)
    (c_law_both_right : PySem.W.codeIn K cd_law_both_right "_law_both_right" = true)
    (k_law_both_right : PySem.W.keepIn K (.ref f_law_both_right_) = true)
    (a_law_is_refused : PySem.W.nsIn K mainGlobals "_law_is_refused" = some (some (.ref f_law_is_refused_)))
    (l_law_is_refused : K.lookup f_law_is_refused_ = some ⟨oc_law_is_refused, od_law_is_refused, .func (PySem.W.fnOf "_law_is_refused" "_law_is_refused" (defArgs s_law_is_refused) (defBody s_law_is_refused) (defScope s_law_is_refused) .none kV_law_is_refused dc_law_is_refused pm_law_is_refused an_law_is_refused cd_law_is_refused ct_law_is_refused), sl_law_is_refused⟩)
    (c_law_is_refused : PySem.W.codeIn K cd_law_is_refused "_law_is_refused" = true)
    (k_law_is_refused : PySem.W.keepIn K (.ref f_law_is_refused_) = true)
    (a_law_odd_right : PySem.W.nsIn K mainGlobals "_law_odd_right" = some (some (.ref f_law_odd_right_)))
    (l_law_odd_right : K.lookup f_law_odd_right_ = some ⟨oc_law_odd_right, od_law_odd_right, .func (PySem.W.fnOf "_law_odd_right" "_law_odd_right" (defArgs s_law_odd_right) (defBody s_law_odd_right) (defScope s_law_odd_right) .none kV_law_odd_right dc_law_odd_right pm_law_odd_right an_law_odd_right (.ref c0_law_odd_right) ct_law_odd_right), sl_law_odd_right⟩)
    (c_law_odd_right : PySem.W.codeIn K (.ref c0_law_odd_right) "_law_odd_right" = true)
    (k_law_odd_right : PySem.W.keepIn K (.ref f_law_odd_right_) = true)
    (lc_law_odd_right : K.lookup c0_law_odd_right = some ⟨ec_law_odd_right, edd_law_odd_right, .fields evs_law_odd_right, esl_law_odd_right⟩)
    (v_law_odd_right : evs_law_odd_right[11]? = some (.ref P_law_odd_right))
    (n_law_odd_right : K.lookup P_law_odd_right = none)
    (a_law : PySem.W.nsIn K mainGlobals "law" = some (some (.ref f_law_)))
    (l_law : K.lookup f_law_ = some ⟨oc_law, od_law, .func (PySem.W.fnOf "law" "law" (defArgs s_law) (defBody s_law) (defScope s_law) .none kV_law dc_law pm_law an_law cd_law ct_law), sl_law⟩)
    (c_law : PySem.W.codeIn K cd_law "law" = true)
    (k_law : PySem.W.keepIn K (.ref f_law_) = true)
    (z_CURES : PySem.W.nsIn K mainGlobals "CURES" = some (some (.int 2 t_CURES)))
    (z_FAULTS : PySem.W.nsIn K mainGlobals "FAULTS" = some (some (.int 0 t_FAULTS)))
    (z_GREATEST_SIGN : PySem.W.nsIn K mainGlobals "GREATEST_SIGN" = some (some (.int 9 t_GREATEST_SIGN)))
    (z_MOST_FAULTS : PySem.W.nsIn K mainGlobals "MOST_FAULTS" = some (some (.int 24 t_MOST_FAULTS)))
    (z_MOST_MOVES : PySem.W.nsIn K mainGlobals "MOST_MOVES" = some (some (.int 200 t_MOST_MOVES)))
    (z_MOST_REMEDIES : PySem.W.nsIn K mainGlobals "MOST_REMEDIES" = some (some (.int 16 t_MOST_REMEDIES)))
    (z_MOST_SETTINGS : PySem.W.nsIn K mainGlobals "MOST_SETTINGS" = some (some (.int 40 t_MOST_SETTINGS)))
    (z_MOVES : PySem.W.nsIn K mainGlobals "MOVES" = some (some (.int 4 t_MOVES)))
    (z_REMEDIES : PySem.W.nsIn K mainGlobals "REMEDIES" = some (some (.int 1 t_REMEDIES)))
    (z_SIGNS : PySem.W.nsIn K mainGlobals "SIGNS" = some (some (.int 3 t_SIGNS)))
    (b_all_ : PySem.W.nsIn K mainGlobals "all" = some none)
    (b_bool_ : PySem.W.nsIn K mainGlobals "bool" = some none)
    (b_enumerate_ : PySem.W.nsIn K mainGlobals "enumerate" = some none)
    (b_int_ : PySem.W.nsIn K mainGlobals "int" = some none)
    (b_isinstance_ : PySem.W.nsIn K mainGlobals "isinstance" = some none)
    (b_len_ : PySem.W.nsIn K mainGlobals "len" = some none)
    (b_list_ : PySem.W.nsIn K mainGlobals "list" = some none)
    (b_max_ : PySem.W.nsIn K mainGlobals "max" = some none)
    (b_range_ : PySem.W.nsIn K mainGlobals "range" = some none)
    (b_repr_ : PySem.W.nsIn K mainGlobals "repr" = some none)
    (b_tuple_ : PySem.W.nsIn K mainGlobals "tuple" = some none)
    (nL : noLst K = true)
    : LawG l w K 12 63 "script" mg fa h := by
  have e := hfa.symm.trans (PySem.W.mg_of X G a_law)
  cases e
  have spT := sp1
  have T_Refused : ∃ fI, PySem.WhX.WhTxt K mg "Refused" C_Refused fI := ⟨fI, { gC := PySem.W.mg_of X G aC_Refused, cls := ⟨nm_Refused, q_Refused, N_Refused, bs_Refused, _, sn_Refused, sub_Refused, ab_Refused, col_Refused, dd_Refused, m0_Refused, m1_Refused, kn_Refused, kt_Refused, m3_Refused, m5_Refused, xL_Refused, rfl⟩, sa := sa_Refused, ga := ga_Refused, gg := gg_Refused, noN := nb_Refused, noK := nk_Refused, clA := cl_Refused, clG := sp1, clT := sp2, clO := mo_Refused, naR := rk_Refused, naF := fk_Refused, iC := iI_Refused, tC := tI, kC := kC_Refused, exC := eC_Refused, tyC := tC_Refused, hdC := hC_Refused, te := exmSelf eC_Refused hC_Refused tC_Refused sC_Refused, fn := ⟨_, _, _, _, _, _, _, _, _, _, _, _, _, _, _, _, _, _, _, _, lI, cI⟩ }⟩
  have R_Refused : PySem.W.ErrC K C_Refused := ⟨ga_Refused, gg_Refused, eC_Refused, hC_Refused, cl_Refused, sp1, sp2, mo_Refused⟩
  have T_BadLot : ∃ fI, PySem.WhX.WhTxt K mg "BadLot" C_BadLot fI := ⟨fI, { gC := PySem.W.mg_of X G aC_BadLot, cls := ⟨nm_BadLot, q_BadLot, N_BadLot, bs_BadLot, _, sn_BadLot, sub_BadLot, ab_BadLot, col_BadLot, dd_BadLot, m0_BadLot, m1_BadLot, kn_BadLot, kt_BadLot, m3_BadLot, m5_BadLot, xL_BadLot, rfl⟩, sa := sa_BadLot, ga := ga_BadLot, gg := gg_BadLot, noN := nb_BadLot, noK := nk_BadLot, clA := cl_BadLot, clG := sp1, clT := sp2, clO := mo_BadLot, naR := rk_BadLot, naF := fk_BadLot, iC := iI_BadLot, tC := tI, kC := kC_BadLot, exC := eC_BadLot, tyC := tC_BadLot, hdC := hC_BadLot, te := exmSelf eC_BadLot hC_BadLot tC_BadLot sC_BadLot, fn := ⟨_, _, _, _, _, _, _, _, _, _, _, _, _, _, _, _, _, _, _, _, lI, cI⟩ }⟩
  have R_BadLot : PySem.W.ErrC K C_BadLot := ⟨ga_BadLot, gg_BadLot, eC_BadLot, hC_BadLot, cl_BadLot, sp1, sp2, mo_BadLot⟩
  have T_BadRig : ∃ fI, PySem.WhX.WhTxt K mg "BadRig" C_BadRig fI := ⟨fI, { gC := PySem.W.mg_of X G aC_BadRig, cls := ⟨nm_BadRig, q_BadRig, N_BadRig, bs_BadRig, _, sn_BadRig, sub_BadRig, ab_BadRig, col_BadRig, dd_BadRig, m0_BadRig, m1_BadRig, kn_BadRig, kt_BadRig, m3_BadRig, m5_BadRig, xL_BadRig, rfl⟩, sa := sa_BadRig, ga := ga_BadRig, gg := gg_BadRig, noN := nb_BadRig, noK := nk_BadRig, clA := cl_BadRig, clG := sp1, clT := sp2, clO := mo_BadRig, naR := rk_BadRig, naF := fk_BadRig, iC := iI_BadRig, tC := tI, kC := kC_BadRig, exC := eC_BadRig, tyC := tC_BadRig, hdC := hC_BadRig, te := exmSelf eC_BadRig hC_BadRig tC_BadRig sC_BadRig, fn := ⟨_, _, _, _, _, _, _, _, _, _, _, _, _, _, _, _, _, _, _, _, lI, cI⟩ }⟩
  have R_BadRig : PySem.W.ErrC K C_BadRig := ⟨ga_BadRig, gg_BadRig, eC_BadRig, hC_BadRig, cl_BadRig, sp1, sp2, mo_BadRig⟩
  have who : ∀ c A, (is_Refused c).isSome = true → mg c = some (.ref A) → (c = "BadLot" ∧ A = C_BadLot) ∨ (c = "BadRig" ∧ A = C_BadRig) := by
    intro c A h1 h2
    unfold is_Refused at h1
    by_cases e0 : c = "BadLot"
    · rw [e0, T_BadLot.choose_spec.gC] at h2
      have z : A = C_BadLot := by cases h2; rfl
      exact Or.inl ⟨e0, z⟩
    rw [if_neg e0] at h1
    by_cases e1 : c = "BadRig"
    · rw [e1, T_BadRig.choose_spec.gC] at h2
      have z : A = C_BadRig := by cases h2; rfl
      exact Or.inr (⟨e1, z⟩)
    rw [if_neg e1] at h1
    cases h1
  have GG : Gs K mg C_BadLot C_BadRig C_Refused := by
    refine ⟨PySem.W.mg_none_of X G b_all_, PySem.W.mg_none_of X G b_bool_, PySem.W.mg_none_of X G b_enumerate_, PySem.W.mg_none_of X G b_int_, PySem.W.mg_none_of X G b_isinstance_, PySem.W.mg_none_of X G b_len_, PySem.W.mg_none_of X G b_list_, PySem.W.mg_none_of X G b_max_, PySem.W.mg_none_of X G b_range_, PySem.W.mg_none_of X G b_repr_, PySem.W.mg_none_of X G b_tuple_, ⟨_, PySem.W.mg_of X G z_CURES⟩, ⟨_, PySem.W.mg_of X G z_FAULTS⟩, ⟨_, PySem.W.mg_of X G z_GREATEST_SIGN⟩, ⟨_, PySem.W.mg_of X G z_MOST_FAULTS⟩, ⟨_, PySem.W.mg_of X G z_MOST_MOVES⟩, ⟨_, PySem.W.mg_of X G z_MOST_REMEDIES⟩, ⟨_, PySem.W.mg_of X G z_MOST_SETTINGS⟩, ⟨_, PySem.W.mg_of X G z_MOVES⟩, ⟨_, PySem.W.mg_of X G z_REMEDIES⟩, ⟨_, PySem.W.mg_of X G z_SIGNS⟩, T_BadLot, T_BadRig, T_Refused, ?_, ?_, ?_, ?_, ?_, ?_, ?_⟩
    · intro c A h1 h2
      rcases who c A h1 h2 with ⟨rfl, rfl⟩ | ⟨rfl, rfl⟩
      · exact ⟨T_BadLot, R_BadLot⟩
      · exact ⟨T_BadRig, R_BadRig⟩
    · intro c A h2 b h1
      have h0 : (is_Refused c).isSome = true := by
        unfold is_BadLot at h1
        unfold is_Refused
        split at h1 <;> simp_all
      rcases who c A h0 h2 with ⟨rfl, rfl⟩ | ⟨rfl, rfl⟩
      · have z : is_BadLot "BadLot" = some true := by decide
        rw [z] at h1
        cases h1
        exact ki_BadLot_BadLot
      · have z : is_BadLot "BadRig" = some false := by decide
        rw [z] at h1
        cases h1
        exact ki_BadRig_BadLot
    · intro c A b h1 h2
      have h0 : (is_Refused c).isSome = true := by
        unfold is_BadLot at h1
        unfold is_Refused
        split at h1 <;> simp_all
      rcases who c A h0 h2 with ⟨rfl, rfl⟩ | ⟨rfl, rfl⟩
      · have z : is_BadLot "BadLot" = some true := by decide
        rw [z] at h1
        cases h1
        exact exmSelf eC_BadLot hC_BadLot tC_BadLot su_BadLot_BadLot
      · have z : is_BadLot "BadRig" = some false := by decide
        rw [z] at h1
        cases h1
        exact exmSelf eC_BadLot hC_BadLot tC_BadLot su_BadRig_BadLot
    · intro c A h2 b h1
      have h0 : (is_Refused c).isSome = true := by
        unfold is_BadRig at h1
        unfold is_Refused
        split at h1 <;> simp_all
      rcases who c A h0 h2 with ⟨rfl, rfl⟩ | ⟨rfl, rfl⟩
      · have z : is_BadRig "BadLot" = some false := by decide
        rw [z] at h1
        cases h1
        exact ki_BadLot_BadRig
      · have z : is_BadRig "BadRig" = some true := by decide
        rw [z] at h1
        cases h1
        exact ki_BadRig_BadRig
    · intro c A b h1 h2
      have h0 : (is_Refused c).isSome = true := by
        unfold is_BadRig at h1
        unfold is_Refused
        split at h1 <;> simp_all
      rcases who c A h0 h2 with ⟨rfl, rfl⟩ | ⟨rfl, rfl⟩
      · have z : is_BadRig "BadLot" = some false := by decide
        rw [z] at h1
        cases h1
        exact exmSelf eC_BadRig hC_BadRig tC_BadRig su_BadLot_BadRig
      · have z : is_BadRig "BadRig" = some true := by decide
        rw [z] at h1
        cases h1
        exact exmSelf eC_BadRig hC_BadRig tC_BadRig su_BadRig_BadRig
    · intro c A h2 b h1
      have h0 : (is_Refused c).isSome = true := by
        unfold is_Refused at h1
        unfold is_Refused
        split at h1 <;> simp_all
      rcases who c A h0 h2 with ⟨rfl, rfl⟩ | ⟨rfl, rfl⟩
      · have z : is_Refused "BadLot" = some true := by decide
        rw [z] at h1
        cases h1
        exact ki_BadLot_Refused
      · have z : is_Refused "BadRig" = some true := by decide
        rw [z] at h1
        cases h1
        exact ki_BadRig_Refused
    · intro c A b h1 h2
      have h0 : (is_Refused c).isSome = true := by
        unfold is_Refused at h1
        unfold is_Refused
        split at h1 <;> simp_all
      rcases who c A h0 h2 with ⟨rfl, rfl⟩ | ⟨rfl, rfl⟩
      · have z : is_Refused "BadLot" = some true := by decide
        rw [z] at h1
        cases h1
        exact exmSelf eC_Refused hC_Refused tC_Refused su_BadLot_Refused
      · have z : is_Refused "BadRig" = some true := by decide
        rw [z] at h1
        cases h1
        exact exmSelf eC_Refused hC_Refused tC_Refused su_BadRig_Refused
  have t_law_odd_right : PySem.W.tabIn K "_law_odd_right" = some (c0_law_odd_right, P_law_odd_right) := by
    unfold PySem.W.tabIn
    rw [a_law_odd_right]
    dsimp only
    rw [l_law_odd_right]
    dsimp only [PySem.W.fnOf]
    rw [lc_law_odd_right]
    dsimp only
    rw [v_law_odd_right]
  obtain ⟨hd_law_odd_right, em_law_odd_right⟩ := TT "_law_odd_right" (by simp) _ _ t_law_odd_right
  have spl : ∀ (o : Obj) (a : Addr) (ns : List Int) (ts : List Addr), ns.length ≤ 63 → (∀ z ∈ ns, Builtin.Int.intBits z ≤ 1048576) → ts = ([(c0_law_odd_right, P_law_odd_right)] : List (Addr × Addr)).map (·.2) → a ∉ ts → spM ([(P_law_odd_right, lamQ "_law_odd_right")] : List (Addr × Str)) mg 1 f_law [.ref a] (lawHp a o (ns.map V.int) ts) (fun v _ => v = .bl true) (fun _ _ _ => False) := fun o a ns ts hl hb ht ha => spLawG (by rw [ht]; simp) ha (law_true ns hl hb)
  refine ⟨PySem.W.fnOf "law" "law" (defArgs s_law) (defBody s_law) (defScope s_law) .none kV_law dc_law pm_law an_law cd_law ct_law, [(c0_law_odd_right, P_law_odd_right)], spM [(P_law_odd_right, lamQ "_law_odd_right")] mg 1 f_law, by simpa using em_law_odd_right, by simpa using n_law_odd_right, by simpa using hd_law_odd_right, nL, fun s u => .of_eq rfl, spl, ?_⟩
  intro base KB GB TBs
  have TB_law_odd_right : LamX.TabB base mg c0_law_odd_right P_law_odd_right := TBs (c0_law_odd_right, P_law_odd_right) (List.mem_singleton.mpr rfl)
  have D_is_number : Good l.prog w K mg base [(P_law_odd_right, lamQ "_law_odd_right")] 1 "is_number" ["thing"] f_is_number := ok_is_number GG (at_is_number X G a_is_number l_is_number c_is_number k_is_number) 
  have D_is_from : Good l.prog w K mg base [(P_law_odd_right, lamQ "_law_odd_right")] 2 "is_from" ["thing", "least", "most"] f_is_from := ok_is_from GG (at_is_from X G a_is_from l_is_from c_is_from k_is_from) D_is_number
  have D_is_tuple_of : Good l.prog w K mg base [(P_law_odd_right, lamQ "_law_odd_right")] 1 "is_tuple_of" ["thing", "least", "most"] f_is_tuple_of := ok_is_tuple_of GG (at_is_tuple_of X G a_is_tuple_of l_is_tuple_of c_is_tuple_of k_is_tuple_of) 
  have D_is_ascending : Good l.prog w K mg base [(P_law_odd_right, lamQ "_law_odd_right")] 2 "is_ascending" ["thing", "many"] f_is_ascending := ok_is_ascending GG (at_is_ascending X G a_is_ascending l_is_ascending c_is_ascending k_is_ascending) D_is_number
  have D_wrong_cures : Good l.prog w K mg base [(P_law_odd_right, lamQ "_law_odd_right")] 3 "wrong_cures" ["cures", "n", "q"] f_wrong_cures := ok_wrong_cures GG (at_wrong_cures X G a_wrong_cures l_wrong_cures c_wrong_cures k_wrong_cures) D_is_tuple_of D_is_ascending
  have D_are_signs : Good l.prog w K mg base [(P_law_odd_right, lamQ "_law_odd_right")] 3 "are_signs" ["entry", "n"] f_are_signs := ok_are_signs GG (at_are_signs X G a_are_signs l_are_signs c_are_signs k_are_signs) D_is_tuple_of D_is_from
  have D_wrong_signs : Good l.prog w K mg base [(P_law_odd_right, lamQ "_law_odd_right")] 4 "wrong_signs" ["signs", "n"] f_wrong_signs := ok_wrong_signs GG (at_wrong_signs X G a_wrong_signs l_wrong_signs c_wrong_signs k_wrong_signs) D_is_tuple_of D_are_signs
  have D_wrong_moves : Good l.prog w K mg base [(P_law_odd_right, lamQ "_law_odd_right")] 3 "wrong_moves" ["moves", "settings"] f_wrong_moves := ok_wrong_moves GG (at_wrong_moves X G a_wrong_moves l_wrong_moves c_wrong_moves k_wrong_moves) D_is_tuple_of D_is_ascending
  have D_wrong_place : Good l.prog w K mg base [(P_law_odd_right, lamQ "_law_odd_right")] 5 "wrong_place" ["thing"] f_wrong_place := ok_wrong_place GG (at_wrong_place X G a_wrong_place l_wrong_place c_wrong_place k_wrong_place) D_is_tuple_of D_is_from D_wrong_cures D_wrong_signs D_wrong_moves
  have D_made_rig : Good l.prog w K mg base [(P_law_odd_right, lamQ "_law_odd_right")] 6 "made_rig" ["thing"] f_made_rig := ok_made_rig GG (at_made_rig X G a_made_rig l_made_rig c_made_rig k_made_rig) D_wrong_place
  have D_check_lot : Good l.prog w K mg base [(P_law_odd_right, lamQ "_law_odd_right")] 3 "check_lot" ["rig", "lot"] f_check_lot := ok_check_lot GG (at_check_lot X G a_check_lot l_check_lot c_check_lot k_check_lot) D_is_ascending
  have D_check_rig_and_lot : Good l.prog w K mg base [(P_law_odd_right, lamQ "_law_odd_right")] 7 "check_rig_and_lot" ["rig", "lot"] f_check_rig_and_lot := ok_check_rig_and_lot GG (at_check_rig_and_lot X G a_check_rig_and_lot l_check_rig_and_lot c_check_rig_and_lot k_check_rig_and_lot) D_made_rig D_check_lot
  have D_every_fault : Good l.prog w K mg base [(P_law_odd_right, lamQ "_law_odd_right")] 1 "every_fault" ["rig"] f_every_fault := ok_every_fault GG (at_every_fault X G a_every_fault l_every_fault c_every_fault k_every_fault) 
  have D_all_faults : Good l.prog w K mg base [(P_law_odd_right, lamQ "_law_odd_right")] 7 "all_faults" ["rig"] f_all_faults := ok_all_faults GG (at_all_faults X G a_all_faults l_all_faults c_all_faults k_all_faults) D_made_rig D_every_fault
  have D_common_remedies : Good l.prog w K mg base [(P_law_odd_right, lamQ "_law_odd_right")] 1 "common_remedies" ["rig", "lot"] f_common_remedies := ok_common_remedies GG (at_common_remedies X G a_common_remedies l_common_remedies c_common_remedies k_common_remedies) 
  have D_remedies_for : Good l.prog w K mg base [(P_law_odd_right, lamQ "_law_odd_right")] 8 "remedies_for" ["rig", "lot"] f_remedies_for := ok_remedies_for GG (at_remedies_for X G a_remedies_for l_remedies_for c_remedies_for k_remedies_for) D_check_rig_and_lot D_common_remedies
  have D_done : Good l.prog w K mg base [(P_law_odd_right, lamQ "_law_odd_right")] 8 "done" ["rig", "lot"] f_done := ok_done GG (at_done X G a_done l_done c_done k_done) D_check_rig_and_lot D_common_remedies
  have D_law_pool : Good l.prog w K mg base [(P_law_odd_right, lamQ "_law_odd_right")] 1 "_law_pool" ["script", "k"] f_law_pool := ok_law_pool GG (at_law_pool X G a_law_pool l_law_pool c_law_pool k_law_pool) 
  have D_law_take : Good l.prog w K mg base [(P_law_odd_right, lamQ "_law_odd_right")] 1 "_law_take" ["source", "top"] f_law_take := ok_law_take GG (at_law_take X G a_law_take l_law_take c_law_take k_law_take) 
  have D_law_one : Good l.prog w K mg base [(P_law_odd_right, lamQ "_law_odd_right")] 2 "_law_one" ["source", "things"] f_law_one := ok_law_one GG (at_law_one X G a_law_one l_law_one c_law_one k_law_one) D_law_take
  have D_law_some : Good l.prog w K mg base [(P_law_odd_right, lamQ "_law_odd_right")] 2 "_law_some" ["source", "things"] f_law_some := ok_law_some GG (at_law_some X G a_law_some l_law_some c_law_some k_law_some) D_law_take
  have D_law_wide_rig : Good l.prog w K mg base [(P_law_odd_right, lamQ "_law_odd_right")] 3 "_law_wide_rig" ["source"] f_law_wide_rig := ok_law_wide_rig GG (at_law_wide_rig X G a_law_wide_rig l_law_wide_rig c_law_wide_rig k_law_wide_rig) D_law_one D_law_take D_law_some
  have D_law_due_remedies : Good l.prog w K mg base [(P_law_odd_right, lamQ "_law_odd_right")] 1 "_law_due_remedies" ["rig", "lot"] f_law_due_remedies := ok_law_due_remedies GG (at_law_due_remedies X G a_law_due_remedies l_law_due_remedies c_law_due_remedies k_law_due_remedies) 
  have D_law_lot_right : Good l.prog w K mg base [(P_law_odd_right, lamQ "_law_odd_right")] 9 "_law_lot_right" ["source", "rig", "lot"] f_law_lot_right := ok_law_lot_right GG (at_law_lot_right X G a_law_lot_right l_law_lot_right c_law_lot_right k_law_lot_right) D_law_some D_law_due_remedies D_remedies_for D_done
  have D_law_both_right : Good l.prog w K mg base [(P_law_odd_right, lamQ "_law_odd_right")] 9 "_law_both_right" ["rig", "one", "two"] f_law_both_right := ok_law_both_right GG (at_law_both_right X G a_law_both_right l_law_both_right c_law_both_right k_law_both_right) D_remedies_for
  have D_law_is_refused : DfnT l.prog w K mg base [(P_law_odd_right, lamQ "_law_odd_right")] 9 "_law_is_refused" 1 f_law_is_refused := ok_law_is_refused GG (at_law_is_refused X G a_law_is_refused l_law_is_refused c_law_is_refused k_law_is_refused) 
  have D_law_odd_right : Good l.prog w K mg base [(P_law_odd_right, lamQ "_law_odd_right")] 11 "_law_odd_right" ["source", "rig"] f_law_odd_right := ok_law_odd_right GG TB_law_odd_right (by simp) (by simp) (at_law_odd_right X G a_law_odd_right l_law_odd_right c_law_odd_right k_law_odd_right) D_law_one D_law_is_refused D_remedies_for D_done
  have D_law : Good l.prog w K mg base [(P_law_odd_right, lamQ "_law_odd_right")] 12 "law" ["script"] f_law := ok_law GG (at_law X G a_law l_law c_law k_law) D_law_pool D_law_wide_rig D_all_faults D_remedies_for D_law_some D_law_lot_right D_law_both_right D_law_odd_right D_done D_law_due_remedies
  exact D_law.2.2 _ (PySem.W.mg_of X G a_law) _ _ _ _ l_law
end K01
open PySem PySem.W PyProof.Rows
set_option maxHeartbeats 0 in
theorem PySem.Challenge.cw_waryrig_k01_remedies_of_lots_holds : PySem.Challenge.rw_waryrig_k01_remedies_of_lots.Holds := by
  w_on; o_law; k_head; (case hw => w_witness2)
  k_fill
  refine Dn.walkGT (l := PySem.Challenge.rw_waryrig_k01_remedies_of_lots) (n := 63) (k := 12) (x := "script") ["_law_odd_right"] rfl (by decide) rfl ⟨rfl, by decide, by decide⟩ (fun w h Y => PySem.W.km_in_of Y) (by rfl) ?F
  case F =>
    intro w mg fa h KX G hmg TT
    refine' K01.all_mk KX G hmg TT ?aC_Refused ?xL_Refused ?sa_Refused ?ga_Refused ?gg_Refused ?nb_Refused ?nk_Refused ?rk_Refused ?fk_Refused ?iI_Refused ?kC_Refused ?eC_Refused ?tC_Refused ?hC_Refused ?sC_Refused ?cl_Refused ?mo_Refused ?tI ?lI ?cI ?aC_BadLot ?xL_BadLot ?sa_BadLot ?ga_BadLot ?gg_BadLot ?nb_BadLot ?nk_BadLot ?rk_BadLot ?fk_BadLot ?iI_BadLot ?kC_BadLot ?eC_BadLot ?tC_BadLot ?hC_BadLot ?sC_BadLot ?cl_BadLot ?mo_BadLot ?aC_BadRig ?xL_BadRig ?sa_BadRig ?ga_BadRig ?gg_BadRig ?nb_BadRig ?nk_BadRig ?rk_BadRig ?fk_BadRig ?iI_BadRig ?kC_BadRig ?eC_BadRig ?tC_BadRig ?hC_BadRig ?sC_BadRig ?cl_BadRig ?mo_BadRig ?sp1 ?sp2 ?su_BadLot_BadLot ?ki_BadLot_BadLot ?su_BadLot_BadRig ?ki_BadLot_BadRig ?su_BadLot_Refused ?ki_BadLot_Refused ?su_BadRig_BadLot ?ki_BadRig_BadLot ?su_BadRig_BadRig ?ki_BadRig_BadRig ?su_BadRig_Refused ?ki_BadRig_Refused ?a_is_number ?l_is_number ?c_is_number ?k_is_number ?a_is_from ?l_is_from ?c_is_from ?k_is_from ?a_is_tuple_of ?l_is_tuple_of ?c_is_tuple_of ?k_is_tuple_of ?a_is_ascending ?l_is_ascending ?c_is_ascending ?k_is_ascending ?a_wrong_cures ?l_wrong_cures ?c_wrong_cures ?k_wrong_cures ?a_are_signs ?l_are_signs ?c_are_signs ?k_are_signs ?a_wrong_signs ?l_wrong_signs ?c_wrong_signs ?k_wrong_signs ?a_wrong_moves ?l_wrong_moves ?c_wrong_moves ?k_wrong_moves ?a_wrong_place ?l_wrong_place ?c_wrong_place ?k_wrong_place ?a_made_rig ?l_made_rig ?c_made_rig ?k_made_rig ?a_check_lot ?l_check_lot ?c_check_lot ?k_check_lot ?a_check_rig_and_lot ?l_check_rig_and_lot ?c_check_rig_and_lot ?k_check_rig_and_lot ?a_every_fault ?l_every_fault ?c_every_fault ?k_every_fault ?a_all_faults ?l_all_faults ?c_all_faults ?k_all_faults ?a_common_remedies ?l_common_remedies ?c_common_remedies ?k_common_remedies ?a_remedies_for ?l_remedies_for ?c_remedies_for ?k_remedies_for ?a_done ?l_done ?c_done ?k_done ?a_law_pool ?l_law_pool ?c_law_pool ?k_law_pool ?a_law_take ?l_law_take ?c_law_take ?k_law_take ?a_law_one ?l_law_one ?c_law_one ?k_law_one ?a_law_some ?l_law_some ?c_law_some ?k_law_some ?a_law_wide_rig ?l_law_wide_rig ?c_law_wide_rig ?k_law_wide_rig ?a_law_due_remedies ?l_law_due_remedies ?c_law_due_remedies ?k_law_due_remedies ?a_law_lot_right ?l_law_lot_right ?c_law_lot_right ?k_law_lot_right ?a_law_both_right ?l_law_both_right ?c_law_both_right ?k_law_both_right ?a_law_is_refused ?l_law_is_refused ?c_law_is_refused ?k_law_is_refused ?a_law_odd_right ?l_law_odd_right ?c_law_odd_right ?k_law_odd_right ?lc_law_odd_right ?v_law_odd_right ?n_law_odd_right ?a_law ?l_law ?c_law ?k_law ?z_CURES ?z_FAULTS ?z_GREATEST_SIGN ?z_MOST_FAULTS ?z_MOST_MOVES ?z_MOST_REMEDIES ?z_MOST_SETTINGS ?z_MOVES ?z_REMEDIES ?z_SIGNS ?b_all_ ?b_bool_ ?b_enumerate_ ?b_int_ ?b_isinstance_ ?b_len_ ?b_list_ ?b_max_ ?b_range_ ?b_repr_ ?b_tuple_ ?nL
    (case aC_Refused => k_is); (case xL_Refused => k_is); (case sa_Refused => k_is); (case ga_Refused => k_is)
    (case gg_Refused => k_is); (case nb_Refused => k_is); (case nk_Refused => k_is); (case rk_Refused => first | k_is | rfl | decide +kernel); (case fk_Refused => k_is); (case iI_Refused => k_is); (case kC_Refused => k_is)
    (case eC_Refused => k_is); (case tC_Refused => k_is); (case hC_Refused => k_is); (case sC_Refused => k_is)
    (case cl_Refused => k_is); (case mo_Refused => k_is); (case tI => k_is); (case lI => k_is)
    (case cI => k_is); (case aC_BadLot => k_is); (case xL_BadLot => k_is); (case sa_BadLot => k_is)
    (case ga_BadLot => k_is); (case gg_BadLot => k_is); (case nb_BadLot => k_is); (case nk_BadLot => k_is); (case rk_BadLot => first | k_is | rfl | decide +kernel); (case fk_BadLot => k_is); (case iI_BadLot => k_is)
    (case kC_BadLot => k_is); (case eC_BadLot => k_is); (case tC_BadLot => k_is); (case hC_BadLot => k_is)
    (case sC_BadLot => k_is); (case cl_BadLot => k_is); (case mo_BadLot => k_is); (case aC_BadRig => k_is)
    (case xL_BadRig => k_is); (case sa_BadRig => k_is); (case ga_BadRig => k_is); (case gg_BadRig => k_is)
    (case nb_BadRig => k_is); (case nk_BadRig => k_is); (case rk_BadRig => first | k_is | rfl | decide +kernel); (case fk_BadRig => k_is); (case iI_BadRig => k_is); (case kC_BadRig => k_is); (case eC_BadRig => k_is)
    (case tC_BadRig => k_is); (case hC_BadRig => k_is); (case sC_BadRig => k_is); (case cl_BadRig => k_is)
    (case mo_BadRig => k_is); (case sp1 => k_is); (case sp2 => k_is); (case su_BadLot_BadLot => k_is)
    (case ki_BadLot_BadLot => first | rfl | k_is | decide +kernel); (case su_BadLot_BadRig => k_is); (case ki_BadLot_BadRig => first | rfl | k_is | decide +kernel); (case su_BadLot_Refused => k_is)
    (case ki_BadLot_Refused => first | rfl | k_is | decide +kernel); (case su_BadRig_BadLot => k_is); (case ki_BadRig_BadLot => first | rfl | k_is | decide +kernel); (case su_BadRig_BadRig => k_is)
    (case ki_BadRig_BadRig => first | rfl | k_is | decide +kernel); (case su_BadRig_Refused => k_is); (case ki_BadRig_Refused => first | rfl | k_is | decide +kernel); (case a_is_number => k_is)
    (case l_is_number => k_is); (case c_is_number => k_is); (case k_is_number => k_is); (case a_is_from => k_is)
    (case l_is_from => k_is); (case c_is_from => k_is); (case k_is_from => k_is); (case a_is_tuple_of => k_is)
    (case l_is_tuple_of => k_is); (case c_is_tuple_of => k_is); (case k_is_tuple_of => k_is); (case a_is_ascending => k_is)
    (case l_is_ascending => k_is); (case c_is_ascending => k_is); (case k_is_ascending => k_is); (case a_wrong_cures => k_is)
    (case l_wrong_cures => k_is); (case c_wrong_cures => k_is); (case k_wrong_cures => k_is); (case a_are_signs => k_is)
    (case l_are_signs => k_is); (case c_are_signs => k_is); (case k_are_signs => k_is); (case a_wrong_signs => k_is)
    (case l_wrong_signs => k_is); (case c_wrong_signs => k_is); (case k_wrong_signs => k_is); (case a_wrong_moves => k_is)
    (case l_wrong_moves => k_is); (case c_wrong_moves => k_is); (case k_wrong_moves => k_is); (case a_wrong_place => k_is)
    (case l_wrong_place => k_is); (case c_wrong_place => k_is); (case k_wrong_place => k_is); (case a_made_rig => k_is)
    (case l_made_rig => k_is); (case c_made_rig => k_is); (case k_made_rig => k_is); (case a_check_lot => k_is)
    (case l_check_lot => k_is); (case c_check_lot => k_is); (case k_check_lot => k_is); (case a_check_rig_and_lot => k_is)
    (case l_check_rig_and_lot => k_is); (case c_check_rig_and_lot => k_is); (case k_check_rig_and_lot => k_is); (case a_every_fault => k_is)
    (case l_every_fault => k_is); (case c_every_fault => k_is); (case k_every_fault => k_is); (case a_all_faults => k_is)
    (case l_all_faults => k_is); (case c_all_faults => k_is); (case k_all_faults => k_is); (case a_common_remedies => k_is)
    (case l_common_remedies => k_is); (case c_common_remedies => k_is); (case k_common_remedies => k_is); (case a_remedies_for => k_is)
    (case l_remedies_for => k_is); (case c_remedies_for => k_is); (case k_remedies_for => k_is); (case a_done => k_is)
    (case l_done => k_is); (case c_done => k_is); (case k_done => k_is); (case a_law_pool => k_is)
    (case l_law_pool => k_is); (case c_law_pool => k_is); (case k_law_pool => k_is); (case a_law_take => k_is)
    (case l_law_take => k_is); (case c_law_take => k_is); (case k_law_take => k_is); (case a_law_one => k_is)
    (case l_law_one => k_is); (case c_law_one => k_is); (case k_law_one => k_is); (case a_law_some => k_is)
    (case l_law_some => k_is); (case c_law_some => k_is); (case k_law_some => k_is); (case a_law_wide_rig => k_is)
    (case l_law_wide_rig => k_is); (case c_law_wide_rig => k_is); (case k_law_wide_rig => k_is); (case a_law_due_remedies => k_is)
    (case l_law_due_remedies => k_is); (case c_law_due_remedies => k_is); (case k_law_due_remedies => k_is); (case a_law_lot_right => k_is)
    (case l_law_lot_right => k_is); (case c_law_lot_right => k_is); (case k_law_lot_right => k_is); (case a_law_both_right => k_is)
    (case l_law_both_right => k_is); (case c_law_both_right => k_is); (case k_law_both_right => k_is); (case a_law_is_refused => k_is)
    (case l_law_is_refused => k_is); (case c_law_is_refused => k_is); (case k_law_is_refused => k_is); (case a_law_odd_right => k_is)
    (case l_law_odd_right => k_is); (case c_law_odd_right => k_is); (case k_law_odd_right => k_is); (case lc_law_odd_right => k_is)
    (case v_law_odd_right => first | rfl | k_is | decide +kernel); (case n_law_odd_right => first | rfl | k_is | decide +kernel); (case a_law => k_is); (case l_law => k_is)
    (case c_law => k_is); (case k_law => k_is); (case z_CURES => k_is); (case z_FAULTS => k_is)
    (case z_GREATEST_SIGN => k_is); (case z_MOST_FAULTS => k_is); (case z_MOST_MOVES => k_is); (case z_MOST_REMEDIES => k_is)
    (case z_MOST_SETTINGS => k_is); (case z_MOVES => k_is); (case z_REMEDIES => k_is); (case z_SIGNS => k_is)
    (case b_all_ => k_is); (case b_bool_ => k_is); (case b_enumerate_ => k_is); (case b_int_ => k_is)
    (case b_isinstance_ => k_is); (case b_len_ => k_is); (case b_list_ => k_is); (case b_max_ => k_is)
    (case b_range_ => k_is); (case b_repr_ => k_is); (case b_tuple_ => k_is); (case nL => first | rfl | k_is | decide +kernel)
