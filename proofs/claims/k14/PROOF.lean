import PyProof.Rows.All
import Wide.All
import OpenK.AllK
import Wide.FinOn
import HandS.ForMost
import HandS.ForExc
import HandS.Deep
import HandS.Zip
import HandS.SortInts
import HandS.Style
import HandS.Conv
import HandS.IsInst
import HandS.More
import HandS.Defaults
import HandS.ExcCtx
import HandS.SetFor
import HandS.HeadEnd
import HandS.ExcIs
import HandS.CallSlots
import HandS.HotCalls
import HandS.HeadHook2
import HandS.FStr
import HandS.Text
import KE.KDictZip
import HandS.ListItems
import HandS.Hot
import KE.SortData
import HandS.Iter
import HandS.SuiteRaise
import HandS.RaiseFrom
import KE.GoesComp
import KE.KAsSuite
import HandS.Head0
import HandS.Head1
import HandS.Head2
import PySem.Challenge.RW_thingdeal_k14_read
/-! ## Z1 -/
set_option Elab.async false
set_option linter.all false
set_option maxRecDepth 100000
set_option maxHeartbeats 2000000
namespace Z
open PySem PySem.Spec PyProof.Rows L2

/-! ### plain data at a value, over a heap G that never changes -/
abbrev PD := PyData
mutual
inductive Rp (K : PySem.W.Frag) (G : Hp) : V → PD → Prop
  | non : Rp K G .non .none
  | bl (b : Bool) : Rp K G (.bl b) (.bool b)
  | int (i : Int) : Rp K G (.int i) (.int i)
  | str (x : Str) : Rp K G (.str x) (.str x)
  | lst {a : Addr} {xs : List V} {ds : List PD} : G a = some (.lst xs) → RpA K G xs ds → Rp K G (.ref a) (.list ds)
  | tup {a : Addr} {xs : List V} {ds : List PD} : G a = some (.tup xs) → RpA K G xs ds → Rp K G (.ref a) (.tuple ds)
  | emp {a : Addr} : G a = some (.dK []) → Rp K G (.ref a) (.dict [])
  /-- the law's own argument: read, never written -/
  | scr {a : Addr} (ns : List Int) : SqL K G a (ns.map V.int) → Rp K G (.ref a) (.dict [(.none, .list (ns.map PyData.int))])
inductive RpA (K : PySem.W.Frag) (G : Hp) : List V → List PD → Prop
  | nil : RpA K G [] []
  | cons {v : V} {vs : List V} {d : PD} {ds : List PD} : Rp K G v d → RpA K G vs ds → RpA K G (v :: vs) (d :: ds)
end
section
variable {K : PySem.W.Frag} {G G' H H' : Hp}
theorem sq_t {a : Addr} {xs : List V} (e : Same H H') (h : SqT K H a xs) : SqT K H' a xs := by
  rcases h with (h | ⟨o, h⟩) | h
  · exact .inl (.inl (e _ _ h))
  · exact .inl (.inr ⟨o, e _ _ h⟩)
  · exact .inr h
mutual
theorem Rp.mono (e : Same G G') : ∀ (d : PD) (v : V), Rp K G v d → Rp K G' v d
  | .none, _, h => by cases h; exact .non
  | .bool b, _, h => by cases h; exact .bl b
  | .int i, _, h => by cases h; exact .int i
  | .str x, _, h => by cases h; exact .str x
  | .list ds, _, h => by
    cases h with
    | lst hs ha => exact .lst (e _ _ hs) (RpA.mono e ds _ ha)
  | .tuple ds, _, h => by
    cases h with
    | tup hs ha => exact .tup (e _ _ hs) (RpA.mono e ds _ ha)
  | .dict _, _, h => by
    cases h with
    | emp he => exact .emp (e _ _ he)
    | scr ns he => exact .scr ns (e.seq he)
theorem RpA.mono (e : Same G G') : ∀ (ds : List PD) (vs : List V), RpA K G vs ds → RpA K G' vs ds
  | [], _, h => by cases h; exact .nil
  | d :: ds, _, h => by
    cases h with
    | cons h1 h2 => exact .cons (Rp.mono e d _ h1) (RpA.mono e ds _ h2)
end
theorem Rp.up {d : PD} {v : V} (h : Rp K G v d) (e : Same G G') : Rp K G' v d := Rp.mono e d v h
theorem RpA.up {d : List PD} {v : List V} (h : RpA K G v d) (e : Same G G') : RpA K G' v d := RpA.mono e d v h
mutual
/-- no dict in it -/
def noD : PD → Bool
  | .dict _ => false
  | .list ds => noDs ds
  | .tuple ds => noDs ds
  | _ => true
def noDs : List PD → Bool
  | [] => true
  | d :: ds => noD d && noDs ds
end
mutual
theorem Rp.dp : ∀ (d : PD) (v : V), noD d = true → Rp K G v d → Dp K G v d
  | .none, _, _, h => by cases h; exact .non
  | .bool b, _, _, h => by cases h; exact .bl b
  | .int i, _, _, h => by cases h; exact .int i
  | .str x, _, _, h => by cases h; exact .str x
  | .list ds, _, n, h => by
    cases h with
    | lst hs ha => exact .lst (SqL.of hs) (RpA.dp ds _ (by simpa [noD] using n) ha)
  | .tuple ds, _, n, h => by
    cases h with
    | tup hs ha => exact .tup (SqT.of hs) (RpA.dp ds _ (by simpa [noD] using n) ha)
  | .dict _, _, n, _ => by simp [noD] at n
theorem RpA.dp : ∀ (ds : List PD) (vs : List V), noDs ds = true → RpA K G vs ds → DpAll K G vs ds
  | [], _, _, h => by cases h; exact .nil
  | d :: ds, _, n, h => by
    cases h with
    | cons h1 h2 =>
      simp only [noDs, Bool.and_eq_true] at n
      exact .cons (Rp.dp d _ n.1 h1) (RpA.dp ds _ n.2 h2)
end
theorem RpA.length {vs : List V} {ds : List PD} (h : RpA K G vs ds) : vs.length = ds.length := by
  induction ds generalizing vs with
  | nil => cases h; rfl
  | cons d ds ih =>
    cases h with
    | cons h1 h2 => simp [ih h2]
theorem RpA.get {vs : List V} {ds : List PD} (h : RpA K G vs ds) {i : Nat} {v : V} (e : vs[i]? = some v) : ∃ d, ds[i]? = some d ∧ Rp K G v d := by
  induction ds generalizing vs i with
  | nil => cases h; simp at e
  | cons d ds ih =>
    cases h with
    | cons h1 h2 =>
      cases i with
      | zero =>
        simp at e
        subst e
        exact ⟨d, rfl, h1⟩
      | succ i => simpa using ih h2 (by simpa using e)
theorem RpA.getD {vs : List V} {ds : List PD} (h : RpA K G vs ds) {i : Nat} {d : PD} (e : ds[i]? = some d) : ∃ v, vs[i]? = some v ∧ Rp K G v d := by
  induction ds generalizing vs i with
  | nil => simp at e
  | cons d0 ds ih =>
    cases h with
    | cons h1 h2 =>
      cases i with
      | zero =>
        simp at e
        subst e
        exact ⟨_, rfl, h1⟩
      | succ i => simpa using ih h2 (by simpa using e)
theorem RpA.append {vs us : List V} {ds es : List PD} (h : RpA K G vs ds) (h' : RpA K G us es) : RpA K G (vs ++ us) (ds ++ es) := by
  induction ds generalizing vs with
  | nil => cases h; exact h'
  | cons d ds ih =>
    cases h with
    | cons h1 h2 => exact .cons h1 (ih h2)
theorem RpA.take {vs : List V} {ds : List PD} (h : RpA K G vs ds) (n : Nat) : RpA K G (vs.take n) (ds.take n) := by
  induction ds generalizing vs n with
  | nil => cases h; simp; exact .nil
  | cons d ds ih =>
    cases h with
    | cons h1 h2 =>
      cases n with
      | zero => exact .nil
      | succ n => exact .cons h1 (ih h2 n)
theorem RpA.drop {vs : List V} {ds : List PD} (h : RpA K G vs ds) (n : Nat) : RpA K G (vs.drop n) (ds.drop n) := by
  induction ds generalizing vs n with
  | nil => cases h; simp; exact .nil
  | cons d ds ih =>
    cases h with
    | cons h1 h2 =>
      cases n with
      | zero => exact .cons h1 h2
      | succ n => exact ih h2 n
theorem RpA.ints {ns : List Int} {vs : List V} (h : RpA K G vs (ns.map PyData.int)) : vs = ns.map V.int := by
  induction ns generalizing vs with
  | nil => cases h; rfl
  | cons n ns ih =>
    cases h with
    | cons h1 h2 =>
      cases h1
      rw [ih h2]
      rfl
theorem rpA_ints (ns : List Int) : RpA K G (ns.map V.int) (ns.map PyData.int) := by
  induction ns with
  | nil => exact .nil
  | cons n ns ih => exact .cons (.int n) ih
theorem RpA.bools {ns : List Bool} {vs : List V} (h : RpA K G vs (ns.map PyData.bool)) : vs = ns.map V.bl := by
  induction ns generalizing vs with
  | nil => cases h; rfl
  | cons n ns ih =>
    cases h with
    | cons h1 h2 =>
      cases h1
      rw [ih h2]
      rfl
end

/-! ### flat values -/
def scV : PD → Option V
  | .none => some .non
  | .bool b => some (.bl b)
  | .int i => some (.int i)
  | .str x => some (.str x)
  | _ => none
theorem Rp.sc {K : PySem.W.Frag} {G : Hp} {v x : V} {d : PD} (h : Rp K G v d) (e : scV d = some x) : v = x := by
  cases h <;> simp [scV] at e <;> exact e
theorem rp_sc {K : PySem.W.Frag} {G : Hp} {x : V} {d : PD} (e : scV d = some x) : Rp K G x d := by
  cases d <;> simp [scV] at e <;> subst e
  · exact .non
  · exact .bl _
  · exact .int _
  · exact .str _

/-! ### owned lists: trees of n levels of lists of one's own over plain data -/
def Ty : Nat → Type
  | 0 => PD
  | n + 1 => List (Ty n)
def ATy : Nat → Type
  | 0 => V × PD
  | n + 1 => Addr × List (ATy n)
def ATy.val : (n : Nat) → ATy n → V
  | 0, x => x.1
  | _ + 1, x => .ref x.1
def ATy.era : (n : Nat) → ATy n → Ty n
  | 0, x => x.2
  | n + 1, x => x.2.map (ATy.era n)
def ATy.adr : (n : Nat) → ATy n → List Addr
  | 0, _ => []
  | n + 1, x => x.1 :: x.2.flatMap (ATy.adr n)
/-- no list stands in it twice -/
def ATy.nd : (n : Nat) → ATy n → Prop
  | 0, _ => True
  | n + 1, x => (∀ y ∈ x.2, ATy.nd n y ∧ x.1 ∉ ATy.adr n y) ∧ x.2.Pairwise fun y z => ∀ a ∈ ATy.adr n y, a ∉ ATy.adr n z
def ATy.ok (K : PySem.W.Frag) (G H : Hp) : (n : Nat) → ATy n → Prop
  | 0, x => Rp K G x.1 x.2
  | n + 1, x => H x.1 = some (.lst (x.2.map (ATy.val n))) ∧ ∀ y ∈ x.2, ATy.ok K G H n y
def Ty.dat : (n : Nat) → Ty n → PD
  | 0, d => d
  | n + 1, l => .list (l.map (Ty.dat n))
section
variable {K : PySem.W.Frag} {G G' H H' : Hp}
theorem ATy.ok_mono (eg : Same G G') (eh : Same H H') : ∀ (n : Nat) (x : ATy n), ATy.ok K G H n x → ATy.ok K G' H' n x
  | 0, _, h => Rp.up h eg
  | n + 1, _, h => ⟨eh _ _ h.1, fun y hy => ATy.ok_mono eg eh n y (h.2 y hy)⟩
/-- the lists are kept, whatever else is -/
theorem ATy.ok_keep (eg : Same G G') : ∀ (n : Nat) (x : ATy n), (∀ a ∈ ATy.adr n x, H' a = H a) → ATy.ok K G H n x → ATy.ok K G' H' n x
  | 0, _, _, h => Rp.up h eg
  | n + 1, x, k, h => ⟨by rw [k x.1 (by simp [ATy.adr])]; exact h.1, fun y hy => ATy.ok_keep eg n y (fun a ha => k a (by
      simp only [ATy.adr, List.mem_cons, List.mem_flatMap]
      exact .inr ⟨y, hy, ha⟩)) (h.2 y hy)⟩
theorem ATy.in_heap : ∀ (n : Nat) (x : ATy n), ATy.ok K G H n x → ∀ a ∈ ATy.adr n x, ∃ xs, H a = some (.lst xs)
  | 0, _, _, a, ha => by simp [ATy.adr] at ha
  | n + 1, x, h, a, ha => by
    simp only [ATy.adr, List.mem_cons, List.mem_flatMap] at ha
    rcases ha with rfl | ⟨y, hy, ha⟩
    · exact ⟨_, h.1⟩
    · exact ATy.in_heap n y (h.2 y hy) a ha
mutual
theorem ATy.rp (s : Same G H) : ∀ (n : Nat) (x : ATy n), ATy.ok K G H n x → Rp K H (ATy.val n x) (Ty.dat n (ATy.era n x))
  | 0, _, h => Rp.up h s
  | n + 1, x, h => by
    show Rp K H (.ref x.1) (.list ((x.2.map (ATy.era n)).map (Ty.dat n)))
    exact .lst h.1 (ATy.rpA s n x.2 h.2)
theorem ATy.rpA (s : Same G H) : ∀ (n : Nat) (xs : List (ATy n)), (∀ y ∈ xs, ATy.ok K G H n y) → RpA K H (xs.map (ATy.val n)) ((xs.map (ATy.era n)).map (Ty.dat n))
  | _, [], _ => .nil
  | n, x :: xs, h => .cons (ATy.rp s n x (h x List.mem_cons_self)) (ATy.rpA s n xs fun y hy => h y (List.mem_cons_of_mem _ hy))
end
end
end Z

/-! ## Z2 -/
set_option Elab.async false
set_option linter.all false
set_option maxRecDepth 100000
set_option maxHeartbeats 2000000
namespace Z
open PySem PySem.Spec PyProof.Rows L2

/-- G: what is known for ever, H: the heap; from (G, H) to (G', H') -/
structure Grow (G H G' H' : Hp) : Prop where
  g : Same G G'
  h : Same H H'
  s : Same G' H'
  m : ∀ a o, H a = some o → Mut (some o) → G a = none → G' a = none
theorem Grow.refl {G H : Hp} (s : Same G H) : Grow G H G H := ⟨Same.refl _, Same.refl _, s, fun _ _ _ _ h => h⟩
theorem Grow.trans {G H G1 H1 G2 H2 : Hp} (a : Grow G H G1 H1) (b : Grow G1 H1 G2 H2) : Grow G H G2 H2 :=
  ⟨a.g.trans b.g, a.h.trans b.h, b.s, fun x o h1 h2 h3 => b.m x o (a.h _ _ h1) h2 (a.m x o h1 h2 h3)⟩
theorem same_upd {H : Hp} {p : Addr} {o : HO} (h : H p = none) : Same H (upd H p o) := fun b x e => by
  rw [upd_ne (ne_of_none e h)]
  exact e
theorem same_upd2 {G H : Hp} {p : Addr} {o : HO} (s : Same G H) (h : H p = none) : Same (upd G p o) (upd H p o) := fun b x e => by
  by_cases q : b = p
  · subst q; rw [upd_same] at e ⊢; exact e
  · rw [upd_ne q] at e ⊢; exact s _ _ e
/-- a new object, not to be known for ever -/
theorem Grow.new {G H : Hp} {p : Addr} {o : HO} (s : Same G H) (h : H p = none) : Grow G H G (upd H p o) :=
  ⟨Same.refl _, same_upd h, s.trans (same_upd h), fun _ _ _ _ h => h⟩
/-- a new object, known for ever -/
theorem Grow.newK {G H : Hp} {p : Addr} {o : HO} (s : Same G H) (h : H p = none) : Grow G H (upd G p o) (upd H p o) :=
  ⟨same_upd (s.free h), same_upd h, same_upd2 s h, fun a u h1 _ h3 => by rw [upd_ne (ne_of_none h1 h)]; exact h3⟩

/-! ### results, entries -/
inductive R where
  | im (d : PD)
  /-- an owned list of this frame, read -/
  | ro (n : Nat) (t : Ty (n + 1))
  /-- new, nobody else's -/
  | fr (n : Nat) (t : Ty (n + 1))
def R.dat : R → PD
  | .im d => d
  | .ro n t => Ty.dat (n + 1) t
  | .fr n t => Ty.dat (n + 1) t
inductive Out (α : Type) where
  | ok (a : α)
  | ex (c : String)
  | st
def Out.bind {α β : Type} (x : Out α) (f : α → Out β) : Out β := match x with
  | .ok a => f a
  | .ex c => .ex c
  | .st => .st
inductive Ent where
  | no
  | im (d : PD)
  | ow (n : Nat) (t : Ty (n + 1))
  /-- just this value -/
  | vv (v : V)
  /-- an instance of an own class, its attributes known for ever -/
  | ob (a C : Addr) (fs : List (Str × PD))
abbrev Env := List Ent
abbrev ED := Env → Out R
abbrev AD := Env → Out (List R)
abbrev CM := String → Value

inductive FldOk (K : PySem.W.Frag) (G : Hp) : List (Str × PD) → List (Str × V) → Prop
  | nil : FldOk K G [] []
  | cons {f : Str} {d : PD} {v : V} {fs : List (Str × PD)} {vs : List (Str × V)} : Rp K G v d → FldOk K G fs vs → FldOk K G ((f, d) :: fs) ((f, v) :: vs)
theorem FldOk.up {K : PySem.W.Frag} {G G' : Hp} {fs : List (Str × PD)} {vs : List (Str × V)} (h : FldOk K G fs vs) (e : Same G G') : FldOk K G' fs vs := by
  induction h with
  | nil => exact .nil
  | cons r _ ih => exact .cons (r.up e) ih
def EntOk (K : PySem.W.Frag) (H0 G H : Hp) (w : Addr → Option Nat) (i : Nat) : Ent → Option V → Prop
  | .no, _ => True
  | .im d, o => ∃ v, o = some v ∧ Rp K G v d
  | .ow n t, o => ∃ x : ATy (n + 1), o = some (ATy.val (n + 1) x) ∧ ATy.era (n + 1) x = t ∧ ATy.ok K G H (n + 1) x ∧ ATy.nd (n + 1) x ∧ ∀ a ∈ ATy.adr (n + 1) x, w a = some i ∧ G a = none ∧ H0 a = none
  | .vv v, o => o = some v
  | .ob a C fs, o => o = some (.ref a) ∧ w a = some i ∧ (G a = none ∧ H0 a = none) ∧ ∃ dx vs, H a = some (.ins C dx vs) ∧ FldOk K G fs vs
structure EnvOk (K : PySem.W.Frag) (G0 H0 G H : Hp) (σ : L2.St) (ρ : Env) : Prop where
  len : σ.length = ρ.length
  b : Grow G0 H0 G H
  e : ∃ w : Addr → Option Nat, ∀ (i : Nat) (e : Ent), ρ[i]? = some e → EntOk K H0 G H w i e (σ.getD i none)
def ROk (K : PySem.W.Frag) (H0 G H : Hp) : R → V → Prop
  | .im d, v => Rp K G v d
  | .ro n t, v => ∃ x : ATy (n + 1), ATy.era (n + 1) x = t ∧ ATy.val (n + 1) x = v ∧ ATy.ok K G H (n + 1) x
  | .fr n t, v => ∃ x : ATy (n + 1), ATy.era (n + 1) x = t ∧ ATy.val (n + 1) x = v ∧ ATy.ok K G H (n + 1) x ∧ ATy.nd (n + 1) x ∧ ∀ a ∈ ATy.adr (n + 1) x, H0 a = none ∧ G a = none
section
variable {K : PySem.W.Frag} {G0 H0 G H G' H' : Hp} {σ : L2.St} {ρ : Env}
theorem EntOk.grow {w : Addr → Option Nat} {i : Nat} {e : Ent} {o : Option V} (h : EntOk K H0 G H w i e o) (g : Grow G H G' H') : EntOk K H0 G' H' w i e o := by
  cases e with
  | no => trivial
  | im d => obtain ⟨v, e1, e2⟩ := h; exact ⟨v, e1, e2.up g.g⟩
  | ow n t =>
    obtain ⟨x, e1, e2, e3, e4, e5⟩ := h
    refine ⟨x, e1, e2, ATy.ok_mono g.g g.h _ _ e3, e4, fun a ha => ?_⟩
    obtain ⟨xs, hx⟩ := ATy.in_heap _ _ e3 a ha
    exact ⟨(e5 a ha).1, g.m a _ hx trivial (e5 a ha).2.1, (e5 a ha).2.2⟩
  | vv v => exact h
  | ob a C fs =>
    obtain ⟨e1, e2, e3, dx, vs, e4, e5⟩ := h
    exact ⟨e1, e2, ⟨g.m a _ e4 trivial e3.1, e3.2⟩, dx, vs, g.h _ _ e4, e5.up g.g⟩
theorem EnvOk.grow (h : EnvOk K G0 H0 G H σ ρ) (g : Grow G H G' H') : EnvOk K G0 H0 G' H' σ ρ := by
  obtain ⟨l, b, w, e⟩ := h
  exact ⟨l, b.trans g, w, fun i e' he => (e i e' he).grow g⟩
theorem EnvOk.s (h : EnvOk K G0 H0 G H σ ρ) : Same G H := h.b.s
theorem ROk.rp {r : R} {v : V} (s : Same G H) (h : ROk K H0 G H r v) : Rp K H v r.dat := by
  cases r with
  | im d => exact Rp.up h s
  | ro n t => obtain ⟨x, e1, e2, e3⟩ := h; subst e1; subst e2; exact ATy.rp s (n + 1) x e3
  | fr n t => obtain ⟨x, e1, e2, e3, _⟩ := h; subst e1; subst e2; exact ATy.rp s (n + 1) x e3
theorem ROk.grow {r : R} {v : V} (h : ROk K H0 G H r v) (g : Grow G H G' H') : ROk K H0 G' H' r v := by
  cases r with
  | im d => exact Rp.up h g.g
  | ro n t => obtain ⟨x, e1, e2, e3⟩ := h; exact ⟨x, e1, e2, ATy.ok_mono g.g g.h _ _ e3⟩
  | fr n t =>
    obtain ⟨x, e1, e2, e3, e4, e5⟩ := h
    refine ⟨x, e1, e2, ATy.ok_mono g.g g.h _ _ e3, e4, fun a ha => ?_⟩
    obtain ⟨xs, hx⟩ := ATy.in_heap _ _ e3 a ha
    exact ⟨(e5 a ha).1, g.m a _ hx trivial (e5 a ha).2⟩
/-- freshness against an earlier heap -/
theorem ROk.base {H1 : Hp} {r : R} {v : V} (h : ROk K H1 G H r v) (e : Same H0 H1) : ROk K H0 G H r v := by
  cases r with
  | im d => exact h
  | ro n t => exact h
  | fr n t =>
    obtain ⟨x, e1, e2, e3, e4, e5⟩ := h
    exact ⟨x, e1, e2, e3, e4, fun a ha => ⟨e.free (e5 a ha).1, (e5 a ha).2⟩⟩
/-- the lists at some places become known for ever -/
def know (G H : Hp) (as : List Addr) : Hp := fun a => if a ∈ as then H a else G a
theorem know_same {as : List Addr} (s : Same G H) (hn : ∀ a ∈ as, G a = none) : Same G (know G H as) := fun a o e => by
  unfold know
  by_cases h : a ∈ as
  · rw [hn a h] at e; cases e
  · rw [if_neg h]; exact e
theorem know_heap {as : List Addr} (s : Same G H) : Same (know G H as) H := fun a o e => by
  unfold know at e
  by_cases h : a ∈ as
  · rw [if_pos h] at e; exact e
  · rw [if_neg h] at e; exact s _ _ e
theorem know_in {as : List Addr} {a : Addr} (h : a ∈ as) : know G H as a = H a := if_pos h
theorem know_out {as : List Addr} {a : Addr} (h : a ∉ as) : know G H as a = G a := if_neg h
/-- a tree whose lists are known for ever is plain data -/
theorem ATy.known : ∀ (n : Nat) (x : ATy n), (∀ a ∈ ATy.adr n x, G' a = H a) → Same G G' → ATy.ok K G H n x → Rp K G' (ATy.val n x) (Ty.dat n (ATy.era n x))
  | n, x, k, s, h => by
    have h2 : ATy.ok K G' G' n x := by
      have h3 : ATy.ok K G' H n x := ATy.ok_mono s (Same.refl _) n x h
      exact ATy.ok_keep (Same.refl _) n x k h3
    exact ATy.rp (Same.refl _) n x h2
/-- what is new becomes known for ever -/
theorem ROk.freeze {n : Nat} {t : Ty (n + 1)} {v : V} (s : Same G H) (g : Grow G0 H0 G H) (h : ROk K H0 G H (.fr n t) v) : ∃ G', Same G G' ∧ Grow G0 H0 G' H ∧ Rp K G' v (Ty.dat (n + 1) t) := by
  obtain ⟨x, e1, e2, e3, e4, e5⟩ := h
  subst e1; subst e2
  refine ⟨know G H (ATy.adr (n + 1) x), know_same s fun a ha => (e5 a ha).2, ⟨g.g.trans (know_same s fun a ha => (e5 a ha).2), g.h, know_heap s, fun a o h1 h2 h3 => ?_⟩,
    ATy.known (n + 1) x (fun a ha => know_in ha) (know_same s fun a ha => (e5 a ha).2) e3⟩
  by_cases h : a ∈ ATy.adr (n + 1) x
  · rw [(e5 a h).1] at h1; cases h1
  · rw [know_out h]; exact g.m a o h1 h2 h3
end

/-! ### what a piece of text does, by a function of the entries -/
def OOk (K : PySem.W.Frag) (E : XK) (C : CM) (G H : Hp) (Q : VK) : Out R → Prop
  | .ok r => ∀ v G' H', Grow G H G' H' → ROk K H G' H' r v → Q v H'
  | .ex c => ∀ G' H', Grow G H G' H' → E (C c) none H'
  | .st => False
def SimE (K : PySem.W.Frag) (E : XK) (C : CM) (te : TE) (e : ED) : Prop :=
  ∀ G0 H0 G H σ ρ (Q : VK), EnvOk K G0 H0 G H σ ρ → OOk K E C G H Q (e ρ) → te σ H Q
inductive ROkA (K : PySem.W.Frag) (H0 G H : Hp) : List R → List V → Prop
  | nil : ROkA K H0 G H [] []
  | cons {r : R} {rs : List R} {v : V} {vs : List V} : ROk K H0 G H r v → ROkA K H0 G H rs vs → ROkA K H0 G H (r :: rs) (v :: vs)
def hpE : Hp := fun _ => none
theorem ROk.e {K : PySem.W.Frag} {H0 G H : Hp} {r : R} {v : V} (h : ROk K H0 G H r v) : ROk K hpE G H r v := h.base fun _ _ e => nomatch e
def AOk (K : PySem.W.Frag) (E : XK) (C : CM) (G H : Hp) (Q : List V → Hp → Prop) : Out (List R) → Prop
  | .ok rs => ∀ vs G' H', Grow G H G' H' → ROkA K hpE G' H' rs vs → Q vs H'
  | .ex c => ∀ G' H', Grow G H G' H' → E (C c) none H'
  | .st => False
def SimA (K : PySem.W.Frag) (E : XK) (C : CM) (ta : TA) (a : AD) : Prop :=
  ∀ G0 H0 G H σ ρ (Q : List V → Hp → Prop), EnvOk K G0 H0 G H σ ρ → AOk K E C G H Q (a ρ) → ta σ H Q
def TD := Env → Out Bool
def TOk (K : PySem.W.Frag) (E : XK) (C : CM) (G H : Hp) (Q : Bool → Hp → Prop) : Out Bool → Prop
  | .ok b => ∀ G' H', Grow G H G' H' → Q b H'
  | .ex c => ∀ G' H', Grow G H G' H' → E (C c) none H'
  | .st => False
def SimT (K : PySem.W.Frag) (E : XK) (C : CM) (tt : TT) (t : TD) : Prop :=
  ∀ G0 H0 G H σ ρ (Q : Bool → Hp → Prop), EnvOk K G0 H0 G H σ ρ → TOk K E C G H Q (t ρ) → tt σ H Q
inductive SO where
  | nx (ρ : Env)
  | rt (r : R)
  | rv (r : R) (ρ : Env)
  | ev (c : String) (ρ : Env)
  | bk (ρ : Env)
  | ct (ρ : Env)
  | ex (c : String)
  | st
abbrev SD := Env → SO
def SOk (K : PySem.W.Frag) (E : XK) (C : CM) (G0 H0 G : Hp) (D : Ends) : SO → Prop
  | .nx ρ => ∀ σ G' H', Same G G' → EnvOk K G0 H0 G' H' σ ρ → D.nx σ H'
  | .bk ρ => ∀ σ G' H', Same G G' → EnvOk K G0 H0 G' H' σ ρ → D.bk σ H'
  | .ct ρ => ∀ σ G' H', Same G G' → EnvOk K G0 H0 G' H' σ ρ → D.ct σ H'
  | .rt r => ∀ v G H, Grow G0 H0 G H → ROk K H0 G H r v → D.rt v H
  | .rv r ρ => ∀ v σ G' H', Same G G' → EnvOk K G0 H0 G' H' σ ρ → ROk K H0 G' H' r v → D.rt v H'
  | .ev c ρ => ∀ σ G' H', Same G G' → EnvOk K G0 H0 G' H' σ ρ → E (C c) none H'
  | .ex c => ∀ G H, Grow G0 H0 G H → E (C c) none H
  | .st => False
theorem SOk.up {K : PySem.W.Frag} {E : XK} {C : CM} {G0 H0 G G' : Hp} {D : Ends} {o : SO} (h : SOk K E C G0 H0 G D o) (s : Same G G') : SOk K E C G0 H0 G' D o := by
  cases o with
  | nx ρ => exact fun σ G2 H2 s2 I => h σ G2 H2 (s.trans s2) I
  | bk ρ => exact fun σ G2 H2 s2 I => h σ G2 H2 (s.trans s2) I
  | ct ρ => exact fun σ G2 H2 s2 I => h σ G2 H2 (s.trans s2) I
  | rt r => exact h
  | rv r ρ => exact fun v σ G2 H2 s2 I => h v σ G2 H2 (s.trans s2) I
  | ev c ρ => exact fun σ G2 H2 s2 I => h σ G2 H2 (s.trans s2) I
  | ex c => exact h
  | st => exact h
def SimS (K : PySem.W.Frag) (E : XK) (C : CM) (ts : TS) (d : SD) : Prop :=
  ∀ G0 H0 G H σ ρ (D : Ends), EnvOk K G0 H0 G H σ ρ → SOk K E C G0 H0 G D (d ρ) → ts D σ H

section
variable {K : PySem.W.Frag} {E : XK} {C : CM} {G H G' H' : Hp} {Q : VK}
theorem OOk.up {o : Out R} (h : OOk K E C G H Q o) (g : Grow G H G' H') : OOk K E C G' H' Q o := by
  cases o with
  | ok r => exact fun v G2 H2 g2 r2 => h v G2 H2 (g.trans g2) (r2.base g.h)
  | ex c => exact fun G2 H2 g2 => h G2 H2 (g.trans g2)
  | st => exact h
theorem ROkA.base {rs : List R} {vs : List V} {H1 : Hp} (h : ROkA K H1 G' H' rs vs) (e : Same H H1) : ROkA K H G' H' rs vs := by
  induction h with
  | nil => exact .nil
  | cons a _ ih => exact .cons (a.base e) ih
theorem ROkA.grow {rs : List R} {vs : List V} {H0 : Hp} (h : ROkA K H0 G H rs vs) (g : Grow G H G' H') : ROkA K H0 G' H' rs vs := by
  induction h with
  | nil => exact .nil
  | cons a _ ih => exact .cons (a.grow g) ih
theorem AOk.up {Q : List V → Hp → Prop} {o : Out (List R)} (h : AOk K E C G H Q o) (g : Grow G H G' H') : AOk K E C G' H' Q o := by
  cases o with
  | ok r => exact fun v G2 H2 g2 r2 => h v G2 H2 (g.trans g2) r2
  | ex c => exact fun G2 H2 g2 => h G2 H2 (g.trans g2)
  | st => exact h
theorem TOk.up {Q : Bool → Hp → Prop} {o : Out Bool} (h : TOk K E C G H Q o) (g : Grow G H G' H') : TOk K E C G' H' Q o := by
  cases o with
  | ok r => exact fun G2 H2 g2 => h G2 H2 (g.trans g2)
  | ex c => exact fun G2 H2 g2 => h G2 H2 (g.trans g2)
  | st => exact h
/-- an expression, then what hangs on its value -/
theorem SimE.step {te : TE} {e : ED} (h : SimE K E C te e) {G0 H0 : Hp} {σ : L2.St} {ρ : Env} (I : EnvOk K G0 H0 G H σ ρ) {Q : VK} {α : Type} {f : R → Out α} {P : Out α → Prop} (hp : P ((e ρ).bind f))
    (hex : ∀ c, P (.ex c) → ∀ G' H', Grow G H G' H' → E (C c) none H') (hst : ¬ P .st)
    (k : ∀ r v G' H', e ρ = .ok r → Grow G H G' H' → EnvOk K G0 H0 G' H' σ ρ → ROk K H G' H' r v → P (f r) → Q v H') : te σ H Q := by
  refine h G0 H0 G H σ ρ Q I ?_
  cases he : e ρ with
  | ok r => rw [he] at hp; exact fun v G' H' g hr => k r v G' H' he g (I.grow g) hr hp
  | ex c => rw [he] at hp; exact hex c hp
  | st => rw [he] at hp; exact (hst hp).elim
end
end Z

/-! ## Z3 -/
set_option Elab.async false
set_option linter.all false
set_option maxRecDepth 100000
set_option maxHeartbeats 2000000
namespace Z
open PySem PySem.Spec PyProof.Rows L2

/-- what is wanted of an outcome, from (G, H) on -/
structure Fam (E : XK) (C : CM) {β : Type} (P : Hp → Hp → Out β → Prop) : Prop where
  up : ∀ {G H G' H' o}, P G H o → Grow G H G' H' → P G' H' o
  ex : ∀ {G H c}, P G H (.ex c) → ∀ G' H', Grow G H G' H' → E (C c) none H'
  st : ∀ {G H}, ¬ P G H .st
section
variable {K : PySem.W.Frag} {E : XK} {C : CM} {G0 H0 G H : Hp} {σ : L2.St} {ρ : Env} {β : Type} {P : Hp → Hp → Out β → Prop}
theorem famO {Q : VK} : Fam E C fun G H => OOk K E C G H Q := ⟨fun h g => h.up g, fun h => h, fun h => h⟩
theorem famA {Q : List V → Hp → Prop} : Fam E C fun G H => AOk K E C G H Q := ⟨fun h g => h.up g, fun h => h, fun h => h⟩
theorem famT {Q : Bool → Hp → Prop} : Fam E C fun G H => TOk K E C G H Q := ⟨fun h g => h.up g, fun h => h, fun h => h⟩
theorem SimE.use (F : Fam E C P) {ta : TE} {a : ED} (ha : SimE K E C ta a) (I : EnvOk K G0 H0 G H σ ρ) {f : R → Out β} (h : P G H ((a ρ).bind f)) {Q : VK}
    (k : ∀ r v G' H', a ρ = .ok r → Grow G H G' H' → EnvOk K G0 H0 G' H' σ ρ → ROk K H G' H' r v → P G' H' (f r) → Q v H') : ta σ H Q := by
  refine ha G0 H0 G H σ ρ Q I ?_
  cases e : a ρ with
  | ok r =>
    rw [e] at h
    intro v G' H' g hr
    exact k r v G' H' e g (I.grow g) hr (F.up (show P G H (f r) from h) g)
  | ex c => rw [e] at h; exact F.ex h
  | st => rw [e] at h; exact (F.st h).elim
theorem SimA.use (F : Fam E C P) {ta : TA} {a : AD} (ha : SimA K E C ta a) (I : EnvOk K G0 H0 G H σ ρ) {f : List R → Out β} (h : P G H ((a ρ).bind f)) {Q : List V → Hp → Prop}
    (k : ∀ r v G' H', a ρ = .ok r → Grow G H G' H' → EnvOk K G0 H0 G' H' σ ρ → ROkA K hpE G' H' r v → P G' H' (f r) → Q v H') : ta σ H Q := by
  refine ha G0 H0 G H σ ρ Q I ?_
  cases e : a ρ with
  | ok r =>
    rw [e] at h
    intro v G' H' g hr
    exact k r v G' H' e g (I.grow g) hr (F.up (show P G H (f r) from h) g)
  | ex c => rw [e] at h; exact F.ex h
  | st => rw [e] at h; exact (F.st h).elim
theorem SimT.use (F : Fam E C P) {ta : TT} {a : TD} (ha : SimT K E C ta a) (I : EnvOk K G0 H0 G H σ ρ) {f : Bool → Out β} (h : P G H ((a ρ).bind f)) {Q : Bool → Hp → Prop}
    (k : ∀ b G' H', a ρ = .ok b → Grow G H G' H' → EnvOk K G0 H0 G' H' σ ρ → P G' H' (f b) → Q b H') : ta σ H Q := by
  refine ha G0 H0 G H σ ρ Q I ?_
  cases e : a ρ with
  | ok r =>
    rw [e] at h
    intro G' H' g
    exact k r G' H' e g (I.grow g) (F.up (show P G H (f r) from h) g)
  | ex c => rw [e] at h; exact F.ex h
  | st => rw [e] at h; exact (F.st h).elim
end

/-! ### the pieces over the rules of the layer -/
structure SE (X : Cx) (E : XK) (C : CM) (e : Expr) (d : ED) : Prop where
  p : ∃ te, PE X e te ∧ SimE X.K E C te d
structure SA (X : Cx) (E : XK) (C : CM) (e : List Expr) (d : AD) : Prop where
  p : ∃ te, PA X e te ∧ SimA X.K E C te d
structure ST (X : Cx) (E : XK) (C : CM) (e : Expr) (d : TD) : Prop where
  p : ∃ te, PT X e te ∧ SimT X.K E C te d
structure SW (X : Cx) (E : XK) (C : CM) (e : Expr) (d : TD) : Prop where
  p : ∃ te, PW X e te ∧ SimT X.K E C te d
structure SS (X : Cx) (E : XK) (C : CM) (e : Stmt) (d : SD) : Prop where
  p : ∃ te, PS X e te ∧ SimS X.K E C te d
structure SB (X : Cx) (E : XK) (C : CM) (e : List Stmt) (d : SD) : Prop where
  p : ∃ te, PSs X e te ∧ SimS X.K E C te d

theorem getD_some {σ : L2.St} {i : Nat} {v : V} (h : σ.getD i none = some v) : σ[i]? = some (some v) := by
  rw [List.getD_eq_getElem?_getD] at h
  cases e : σ[i]? with
  | none => rw [e] at h; cases h
  | some o => rw [e] at h; exact congrArg some h

def varD (i : Nat) : ED := fun ρ => match ρ[i]? with
  | some (.im d) => .ok (.im d)
  | some (.ow n t) => .ok (.ro n t)
  | _ => .st
@[simp] def cD (d : PD) : ED := fun _ => .ok (.im d)
section
variable {X : Cx} {E : XK} {C : CM}
theorem sim_var {K : PySem.W.Frag} (i : Nat) : SimE K E C (tVar i) (varD i) := by
  intro G0 H0 G H σ ρ Q I h
  obtain ⟨len, b, w, he⟩ := I
  unfold varD at h
  cases e : ρ[i]? with
  | none => rw [e] at h; exact h.elim
  | some x =>
    rw [e] at h
    have q := he i x e
    cases x with
    | no => exact h.elim
    | im d =>
      obtain ⟨v, ev, r⟩ := q
      exact ⟨v, getD_some ev, h v G H (Grow.refl b.s) r⟩
    | ow n t =>
      obtain ⟨y, ev, e2, e3, _⟩ := q
      exact ⟨_, getD_some ev, h _ G H (Grow.refl b.s) ⟨y, e2, rfl, e3⟩⟩
    | vv v => exact h.elim
    | ob a C fs => exact h.elim
theorem se_var (i : Nat) {x : Str} {pos : Pos} (hN : X.N[i]? = some x := by rfl) (hv : Vis X.env.scope x := by first | exact Or.inl rfl | exact Or.inr (Or.inl rfl) | exact Or.inr (Or.inr rfl)) (hd : (x == ("__debug__" : Str)) = false := by decide)
    (hcd : (x == ("__classdict__" : Str)) = false := by decide) : SE X E C (.Name x pos) (varD i) := ⟨_, pe_var hN hv hd hcd, sim_var i⟩
theorem sim_c {K : PySem.W.Frag} {v : V} {d : PD} (h : scV d = some v) : SimE K E C (tC v) (cD d) := fun G0 H0 G H σ ρ Q I q => q v G H (Grow.refl I.s) (rp_sc h)
theorem se_int {i : Int} {j} {pos : Pos} : SE X E C (.Constant (.int i) j pos) (cD (.int i)) := ⟨_, pe_int, sim_c rfl⟩
theorem se_bl {b : Bool} {j} {pos : Pos} : SE X E C (.Constant (.bool b) j pos) (cD (.bool b)) := ⟨_, pe_bl, sim_c rfl⟩
theorem se_non {j} {pos : Pos} : SE X E C (.Constant .none j pos) (cD .none) := ⟨_, pe_non, sim_c rfl⟩
theorem se_str {x : Str} {j} {pos : Pos} : SE X E C (.Constant (.str x) j pos) (cD (.str x)) := ⟨_, pe_str, sim_c rfl⟩
theorem se_globI {x : Str} {i : Int} {t : Tok} {pos : Pos} (hg : Gl X x) (hm : X.mg x = some (.int i t)) (hd : (x == ("__debug__" : Str)) = false := by decide) : SE X E C (.Name x pos) (cD (.int i)) :=
  ⟨_, pe_glob (v := .int i) hg hm ⟨t, rfl⟩ hd, sim_c rfl⟩

/-! ### two operands, read; a flat answer -/
@[simp] def binR (f : PD → PD → Option PD) (a b : ED) : ED := fun ρ => (a ρ).bind fun r1 => (b ρ).bind fun r2 => match f r1.dat r2.dat with
  | some d => .ok (.im d)
  | none => .st
def Lk2 (K : PySem.W.Frag) (r : R2) (f : PD → PD → Option PD) : Prop := ∀ (H : Hp) (x y : V) (d e z : PD) (Q : VK), Rp K H x d → Rp K H y e → f d e = some z → ∃ v, scV z = some v ∧ (Q v H → r x y H Q)
theorem sim_bin {K : PySem.W.Frag} {r : R2} {f : PD → PD → Option PD} {ta tb : TE} {a b : ED} (l : Lk2 K r f) (ha : SimE K E C ta a) (hb : SimE K E C tb b) : SimE K E C (tOp r ta tb) (binR f a b) := by
  intro G0 H0 G H σ ρ Q I h
  refine ha.use famO I h fun r1 x G1 H1 e1 g1 I1 k1 h1 => ?_
  refine hb.use famO I1 h1 fun r2 y G2 H2 e2 g2 I2 k2 h2 => ?_
  cases e : f r1.dat r2.dat with
  | none => rw [e] at h2; exact h2.elim
  | some z =>
    rw [e] at h2
    obtain ⟨v, ev, hr⟩ := l H2 x y _ _ z Q ((k1.rp I1.s).up g2.h) (k2.rp I2.s) e
    exact hr (h2 v G2 H2 (Grow.refl I2.s) (rp_sc ev))
theorem se_op {op : Operator} {r : R2} {f : PD → PD → Option PD} {a b : Expr} {da db : ED} {pos : Pos} (ho : OpR X (binaryOp op) r) (l : Lk2 X.K r f) (ha : SE X E C a da) (hb : SE X E C b db) : SE X E C (.BinOp a op b pos) (binR f da db) := by
  obtain ⟨ta, pa, sa⟩ := ha
  obtain ⟨tb, pb, sb⟩ := hb
  exact ⟨_, pe_op ho pa pb, sim_bin l sa sb⟩
theorem se_cmp {op : CmpOp} {r : R2} {f : PD → PD → Option PD} {a b : Expr} {da db : ED} {pos : Pos} (ho : OpR X (compareOp op) r) (l : Lk2 X.K r f) (ha : SE X E C a da) (hb : SE X E C b db) (hm : behindInMarks op b = false) : SE X E C (.Compare a [op] [b] pos) (binR f da db) := by
  obtain ⟨ta, pa, sa⟩ := ha
  obtain ⟨tb, pb, sb⟩ := hb
  exact ⟨_, pe_cmpR ho pa pb hm, sim_bin l sa sb⟩
/-- a value that is True or False, as a test -/
@[simp] def tstD (a : ED) : TD := fun ρ => (a ρ).bind fun r => match r.dat with
  | .bool b => .ok b
  | _ => .st
theorem sim_tst {K : PySem.W.Frag} {ta : TE} {a : ED} (ha : SimE K E C ta a) : SimT K E C (tTest ta) (tstD a) := by
  intro G0 H0 G H σ ρ Q I h
  refine ha.use famT I h fun r1 x G1 H1 e1 g1 I1 k1 h1 => ?_
  have k := k1.rp I1.s
  cases e : r1.dat with
  | bool b =>
    rw [e] at h1 k
    cases k
    exact ⟨b, rfl, h1 G1 H1 (Grow.refl I1.s)⟩
  | _ => rw [e] at h1; exact h1.elim
theorem st_val {a : Expr} {da : ED} (ha : SE X E C a da) (he : ∀ whole, isTrue a X.env whole = (do let v ← whole; standAt a.pos; holding [v] (truthy v)) := by intro _; rfl) : ST X E C a (tstD da) := by
  obtain ⟨ta, pa, sa⟩ := ha
  exact ⟨_, pt_val pa he, sim_tst sa⟩
theorem st_cmp {op : CmpOp} {r : R2} {f : PD → PD → Option PD} {a b : Expr} {da db : ED} {pos : Pos} (ho : OpR X (compareOp op) r) (l : Lk2 X.K r f) (ha : SE X E C a da) (hb : SE X E C b db) (hm : behindInMarks op b = false) : ST X E C (.Compare a [op] [b] pos) (tstD (binR f da db)) := by
  obtain ⟨ta, pa, sa⟩ := ha
  obtain ⟨tb, pb, sb⟩ := hb
  exact ⟨_, pt_cmpR ho pa pb hm, sim_tst (sim_bin l sa sb)⟩

/-! #### the operators -/
def fI (f : Int → Int → Option PD) : PD → PD → Option PD := fun d e => match d, e with
  | .int i, .int j => f i j
  | _, _ => none
theorem lk_I {K : PySem.W.Frag} {r : R2} {f : Int → Int → Option PD} (h : ∀ (H : Hp) (i j : Int) (z : PD) (Q : VK), f i j = some z → ∃ v, scV z = some v ∧ (Q v H → r (.int i) (.int j) H Q)) : Lk2 K r (fI f) := by
  intro H x y d e z Q hx hy hf
  unfold fI at hf
  split at hf
  · cases hx; cases hy
    exact h H _ _ z Q hf
  · cases hf
def subI : PD → PD → Option PD := fI fun i j => some (.int (i - j))
theorem lk_sub {K : PySem.W.Frag} : Lk2 K (rI0 fun i j => .int (i - j)) subI := lk_I fun H i j z Q e => by
  cases e
  exact ⟨_, rfl, fun q => ⟨i, j, rfl, rfl, q⟩⟩
noncomputable def mulI : PD → PD → Option PD := fI fun i j => @ite _ ((-(2 ^ 64) < i ∧ i < 2 ^ 64) ∨ (-(2 ^ 64) < j ∧ j < 2 ^ 64)) (Classical.propDecidable _) (some (.int (i * j))) none
theorem lk_mul {K : PySem.W.Frag} : Lk2 K (rI CMul fun i j => .int (i * j)) mulI := lk_I fun H i j z Q e => by
  split at e
  · rename_i c
    cases e
    exact ⟨_, rfl, fun q => ⟨i, j, rfl, rfl, c, q⟩⟩
  · cases e
noncomputable def divI : PD → PD → Option PD := fI fun i j => @ite _ (0 < j ∧ j < 1073741824) (Classical.propDecidable _) (some (.int (i / j))) none
theorem lk_div {K : PySem.W.Frag} : Lk2 K (rI CDiv fun i j => .int (i / j)) divI := lk_I fun H i j z Q e => by
  split at e
  · rename_i c
    cases e
    exact ⟨_, rfl, fun q => ⟨i, j, rfl, rfl, c, q⟩⟩
  · cases e
def modI : PD → PD → Option PD := fI fun i j => if 0 < j then some (.int (i % j)) else none
theorem lk_mod {K : PySem.W.Frag} : Lk2 K (rI (fun _ j => 0 < j) fun i j => .int (i % j)) modI := lk_I fun H i j z Q e => by
  split at e
  · rename_i c
    cases e
    exact ⟨_, rfl, fun q => ⟨i, j, rfl, rfl, c, q⟩⟩
  · cases e
def ltI : PD → PD → Option PD := fI fun i j => some (.bool (decide (i < j)))
def leI : PD → PD → Option PD := fI fun i j => some (.bool (decide (i ≤ j)))
def gtI : PD → PD → Option PD := fI fun i j => some (.bool (decide (j < i)))
def geI : PD → PD → Option PD := fI fun i j => some (.bool (decide (j ≤ i)))
theorem lk_lt {K : PySem.W.Frag} : Lk2 K (rI0 fun i j => .bl (decide (i < j))) ltI := lk_I fun H i j z Q e => by
  cases e
  exact ⟨_, rfl, fun q => ⟨i, j, rfl, rfl, q⟩⟩
theorem lk_le {K : PySem.W.Frag} : Lk2 K (rI0 fun i j => .bl (decide (i ≤ j))) leI := lk_I fun H i j z Q e => by
  cases e
  exact ⟨_, rfl, fun q => ⟨i, j, rfl, rfl, q⟩⟩
theorem lk_gt {K : PySem.W.Frag} : Lk2 K (rI0 fun i j => .bl (decide (j < i))) gtI := lk_I fun H i j z Q e => by
  cases e
  exact ⟨_, rfl, fun q => ⟨i, j, rfl, rfl, q⟩⟩
theorem lk_ge {K : PySem.W.Frag} : Lk2 K (rI0 fun i j => .bl (decide (j ≤ i))) geI := lk_I fun H i j z Q e => by
  cases e
  exact ⟨_, rfl, fun q => ⟨i, j, rfl, rfl, q⟩⟩
/-- data that may be compared -/
def shp (d : PD) : Bool := noD d && SeqAt.shaped d
def eqF : PD → PD → Option PD := fun d e => if shp d && shp e then some (.bool (PyData.eqv d e)) else none
def neF : PD → PD → Option PD := fun d e => if shp d && shp e then some (.bool (!PyData.eqv d e)) else none
theorem lk_eq {K : PySem.W.Frag} : Lk2 K (rEqD K) eqF := by
  intro H x y d e z Q hx hy hf
  unfold eqF at hf
  split at hf
  · rename_i c
    cases hf
    simp only [shp, Bool.and_eq_true] at c
    exact ⟨_, rfl, fun q => ⟨d, e, hx.dp _ _ c.1.1, hy.dp _ _ c.2.1, c.1.2, c.2.2, q⟩⟩
  · cases hf
theorem lk_ne {K : PySem.W.Frag} : Lk2 K (rNeD K) neF := by
  intro H x y d e z Q hx hy hf
  unfold neF at hf
  split at hf
  · rename_i c
    cases hf
    simp only [shp, Bool.and_eq_true] at c
    exact ⟨_, rfl, fun q => ⟨d, e, hx.dp _ _ c.1.1, hy.dp _ _ c.2.1, c.1.2, c.2.2, q⟩⟩
  · cases hf
def inF : PD → PD → Option PD := fun d e => match e with
  | .list ds => if shp d && shp (.list ds) then some (.bool (ds.any fun z => PyData.eqv z d)) else none
  | _ => none
def niF : PD → PD → Option PD := fun d e => match e with
  | .list ds => if shp d && shp (.list ds) then some (.bool (!ds.any fun z => PyData.eqv z d)) else none
  | _ => none
theorem lk_in {K : PySem.W.Frag} : Lk2 K (rInD K) inF := by
  intro H x y d e z Q hx hy hf
  unfold inF at hf
  split at hf
  · rename_i ds
    split at hf
    · rename_i c
      cases hf
      simp only [shp, Bool.and_eq_true] at c
      exact ⟨_, rfl, fun q => ⟨d, ds, hx.dp _ _ c.1.1, hy.dp _ _ c.2.1, c.1.2, c.2.2, q⟩⟩
    · cases hf
  · cases hf
theorem lk_ni {K : PySem.W.Frag} : Lk2 K (rNotInD K) niF := by
  intro H x y d e z Q hx hy hf
  unfold niF at hf
  split at hf
  · rename_i ds
    split at hf
    · rename_i c
      cases hf
      simp only [shp, Bool.and_eq_true] at c
      exact ⟨_, rfl, fun q => ⟨d, ds, hx.dp _ _ c.1.1, hy.dp _ _ c.2.1, c.1.2, c.2.2, q⟩⟩
    · cases hf
  · cases hf
def isN : PD → Bool
  | .none => true
  | _ => false
def isNF : PD → PD → Option PD := fun d e => match e with
  | .none => some (.bool (isN d))
  | _ => none
def nNF : PD → PD → Option PD := fun d e => match e with
  | .none => some (.bool (!isN d))
  | _ => none
theorem rp_isN {K : PySem.W.Frag} {H : Hp} {x : V} {d : PD} (h : Rp K H x d) : decide (x = .non) = isN d := by cases h <;> simp [isN]
theorem lk_isN {K : PySem.W.Frag} : Lk2 K (fun x y H Q => y = .non ∧ Q (.bl (decide (x = .non))) H) isNF := by
  intro H x y d e z Q hx hy hf
  unfold isNF at hf
  split at hf
  · cases hf
    cases hy
    exact ⟨_, rfl, fun q => ⟨rfl, by rw [rp_isN hx]; exact q⟩⟩
  · cases hf
theorem lk_nN {K : PySem.W.Frag} : Lk2 K (fun x y H Q => y = .non ∧ Q (.bl (!decide (x = .non))) H) nNF := by
  intro H x y d e z Q hx hy hf
  unfold nNF at hf
  split at hf
  · cases hf
    cases hy
    exact ⟨_, rfl, fun q => ⟨rfl, by rw [rp_isN hx]; exact q⟩⟩
  · cases hf

/-! #### one operand -/
@[simp] def unR (f : PD → Option PD) (a : ED) : ED := fun ρ => (a ρ).bind fun r => match f r.dat with
  | some d => .ok (.im d)
  | none => .st
def negI : PD → Option PD
  | .int i => some (.int (-i))
  | _ => none
theorem se_neg {a : Expr} {da : ED} {pos : Pos} (ha : SE X E C a da) : SE X E C (.UnaryOp .USub a pos) (unR negI da) := by
  obtain ⟨ta, pa, sa⟩ := ha
  refine ⟨_, pe_un un_neg pa, ?_⟩
  intro G0 H0 G H σ ρ Q I h
  refine sa.use famO I h fun r1 x G1 H1 e1 g1 I1 k1 h1 => ?_
  have k := k1.rp I1.s
  cases e : r1.dat with
  | int i =>
    rw [e] at h1 k
    cases k
    exact ⟨i, rfl, h1 _ G1 H1 (Grow.refl I1.s) (.int _)⟩
  | _ => rw [e] at h1; exact h1.elim

/-! #### a chain of two comparisons -/
@[simp] def chnD (f f' : PD → PD → Option PD) (a b c : ED) : ED := fun ρ => (a ρ).bind fun r1 => (b ρ).bind fun r2 => match f r1.dat r2.dat with
  | some (.bool true) => (c ρ).bind fun r3 => match f' r2.dat r3.dat with
    | some d => .ok (.im d)
    | none => .st
  | some (.bool false) => .ok (.im (.bool false))
  | _ => .st
theorem sim_chn {K : PySem.W.Frag} {r r' : R2} {f f' : PD → PD → Option PD} {ta tb tc : TE} {da db dc : ED} (l : Lk2 K r f) (l' : Lk2 K r' f') (sa : SimE K E C ta da) (sb : SimE K E C tb db) (sc : SimE K E C tc dc) : SimE K E C (tChain r r' ta tb tc) (chnD f f' da db dc) := by
  intro G0 H0 G H σ ρ Q I h
  refine sa.use famO I h fun r1 x G1 H1 e1 g1 I1 k1 h1 => ?_
  refine sb.use famO I1 h1 fun r2 y G2 H2 e2 g2 I2 k2 h2 => ?_
  cases e : f r1.dat r2.dat with
  | none => rw [e] at h2; exact h2.elim
  | some z =>
    rw [e] at h2
    obtain ⟨v, ev, hr⟩ := l H2 x y _ _ z (fun z H3 => ∃ k, z = .bl k ∧ (if k = true then tc σ H3 fun w' H4 => r' y w' H4 Q else Q (.bl false) H3)) ((k1.rp I1.s).up g2.h) (k2.rp I2.s) e
    refine hr ?_
    cases z with
    | bool b =>
      cases ev
      refine ⟨b, rfl, ?_⟩
      cases b with
      | true =>
        show tc σ H2 fun w' H4 => r' y w' H4 Q
        refine sc.use famO I2 h2 fun r3 w G3 H3 e3 g3 I3 k3 h3 => ?_
        cases e' : f' r2.dat r3.dat with
        | none => rw [e'] at h3; exact h3.elim
        | some z =>
          rw [e'] at h3
          obtain ⟨v, ev, hr⟩ := l' H3 y w _ _ z Q ((k2.rp I2.s).up g3.h) (k3.rp I3.s) e'
          exact hr (h3 v G3 H3 (Grow.refl I3.s) (rp_sc ev))
      | false => exact h2 _ G2 H2 (Grow.refl I2.s) (.bl false)
    | _ => exact h2.elim

theorem se_chn {op op' : CmpOp} {r r' : R2} {f f' : PD → PD → Option PD} {a b c : Expr} {da db dc : ED} {pos : Pos} (ho : OpR X (compareOp op) r) (ho' : OpR X (compareOp op') r') (l : Lk2 X.K r f) (l' : Lk2 X.K r' f')
    (ha : SE X E C a da) (hb : SE X E C b db) (hc : SE X E C c dc) (hm : lastMarks [op, op'] [b, c] = false := by rfl) : SE X E C (.Compare a [op, op'] [b, c] pos) (chnD f f' da db dc) := by
  obtain ⟨ta, pa, sa⟩ := ha
  obtain ⟨tb, pb, sb⟩ := hb
  obtain ⟨tc, pc, sc⟩ := hc
  exact ⟨_, pe_chain ho ho' pa pb pc hm, sim_chn l l' sa sb sc⟩
theorem st_chn {op op' : CmpOp} {r r' : R2} {f f' : PD → PD → Option PD} {a b c : Expr} {da db dc : ED} {pos : Pos} (ho : OpR X (compareOp op) r) (ho' : OpR X (compareOp op') r') (l : Lk2 X.K r f) (l' : Lk2 X.K r' f')
    (ha : SE X E C a da) (hb : SE X E C b db) (hc : SE X E C c dc) (hm : lastMarks [op, op'] [b, c] = false := by rfl) : ST X E C (.Compare a [op, op'] [b, c] pos) (tstD (chnD f f' da db dc)) := by
  have key : ∀ ta tb tc, PE X a ta → PE X b tb → PE X c tc → PT X (.Compare a [op, op'] [b, c] pos) (tTest (tChain r r' ta tb tc)) := fun ta tb tc pa pb pc => pt_chain ho ho' pa pb pc hm
  obtain ⟨ta, pa, sa⟩ := ha
  obtain ⟨tb, pb, sb⟩ := hb
  obtain ⟨tc, pc, sc⟩ := hc
  exact ⟨_, key ta tb tc pa pb pc, sim_tst (sim_chn l l' sa sb sc)⟩
/-! #### and, or, not -/
@[simp] def andD (a b : ED) : ED := fun ρ => (a ρ).bind fun r => match r.dat with
  | .bool true => b ρ
  | .bool false => .ok (.im (.bool false))
  | _ => .st
@[simp] def orD (a b : ED) : ED := fun ρ => (a ρ).bind fun r => match r.dat with
  | .bool false => b ρ
  | .bool true => .ok (.im (.bool true))
  | _ => .st
@[simp] def notD (a : ED) : ED := fun ρ => (a ρ).bind fun r => match r.dat with
  | .bool b => .ok (.im (.bool (!b)))
  | _ => .st
theorem se_and {a b : Expr} {rest : List Expr} {da db : ED} {pos : Pos} (ha : SE X E C a da) (hb : SE X E C (.BoolOp .And (b :: rest) pos) db) : SE X E C (.BoolOp .And (a :: b :: rest) pos) (andD da db) := by
  obtain ⟨ta, pa, sa⟩ := ha
  obtain ⟨tb, pb, sb⟩ := hb
  refine ⟨_, pe_and pa pb, ?_⟩
  intro G0 H0 G H σ ρ Q I h
  refine sa.use famO I h fun r1 x G1 H1 e1 g1 I1 k1 h1 => ?_
  have k := k1.rp I1.s
  cases e : r1.dat with
  | bool c =>
    rw [e] at h1 k
    cases k
    refine ⟨c, rfl, ?_⟩
    cases c with
    | true => exact sb G0 H0 G1 H1 σ ρ Q I1 h1
    | false => exact h1 _ G1 H1 (Grow.refl I1.s) (.bl false)
  | _ => rw [e] at h1; exact h1.elim
theorem se_or {a b : Expr} {rest : List Expr} {da db : ED} {pos : Pos} (ha : SE X E C a da) (hb : SE X E C (.BoolOp .Or (b :: rest) pos) db) : SE X E C (.BoolOp .Or (a :: b :: rest) pos) (orD da db) := by
  obtain ⟨ta, pa, sa⟩ := ha
  obtain ⟨tb, pb, sb⟩ := hb
  refine ⟨_, pe_or pa pb, ?_⟩
  intro G0 H0 G H σ ρ Q I h
  refine sa.use famO I h fun r1 x G1 H1 e1 g1 I1 k1 h1 => ?_
  have k := k1.rp I1.s
  cases e : r1.dat with
  | bool c =>
    rw [e] at h1 k
    cases k
    refine ⟨c, rfl, ?_⟩
    cases c with
    | false => exact sb G0 H0 G1 H1 σ ρ Q I1 h1
    | true => exact h1 _ G1 H1 (Grow.refl I1.s) (.bl true)
  | _ => rw [e] at h1; exact h1.elim
theorem se_one {op} {a : Expr} {da : ED} {pos : Pos} (ha : SE X E C a da) : SE X E C (.BoolOp op [a] pos) da := by
  obtain ⟨ta, pa, sa⟩ := ha
  exact ⟨_, pe_one pa, sa⟩
theorem se_not {a : Expr} {da : ED} {pos : Pos} (ha : SE X E C a da) : SE X E C (.UnaryOp .Not a pos) (notD da) := by
  obtain ⟨ta, pa, sa⟩ := ha
  refine ⟨_, pe_not pa, ?_⟩
  intro G0 H0 G H σ ρ Q I h
  refine sa.use famO I h fun r1 x G1 H1 e1 g1 I1 k1 h1 => ?_
  have k := k1.rp I1.s
  cases e : r1.dat with
  | bool c =>
    rw [e] at h1 k
    cases k
    exact ⟨c, rfl, h1 _ G1 H1 (Grow.refl I1.s) (.bl _)⟩
  | _ => rw [e] at h1; exact h1.elim
@[simp] def andT (a b : TD) : TD := fun ρ => (a ρ).bind fun c => if c = true then b ρ else .ok false
@[simp] def orT (a b : TD) : TD := fun ρ => (a ρ).bind fun c => if c = true then .ok true else b ρ
@[simp] def notT (a : TD) : TD := fun ρ => (a ρ).bind fun c => .ok (!c)
theorem sw_and {a b : Expr} {rest : List Expr} {da db : TD} {pos : Pos} (ha : ST X E C a da) (hb : SW X E C (.BoolOp .And (b :: rest) pos) db) : SW X E C (.BoolOp .And (a :: b :: rest) pos) (andT da db) := by
  obtain ⟨ta, pa, sa⟩ := ha
  obtain ⟨tb, pb, sb⟩ := hb
  refine ⟨_, pw_and pa pb, ?_⟩
  intro G0 H0 G H σ ρ Q I h
  refine sa.use famT I h fun c G1 H1 e1 g1 I1 h1 => ?_
  cases c with
  | true => exact sb G0 H0 G1 H1 σ ρ Q I1 h1
  | false => exact h1 G1 H1 (Grow.refl I1.s)
theorem sw_or {a b : Expr} {rest : List Expr} {da db : TD} {pos : Pos} (ha : ST X E C a da) (hb : SW X E C (.BoolOp .Or (b :: rest) pos) db) : SW X E C (.BoolOp .Or (a :: b :: rest) pos) (orT da db) := by
  obtain ⟨ta, pa, sa⟩ := ha
  obtain ⟨tb, pb, sb⟩ := hb
  refine ⟨_, pw_or pa pb, ?_⟩
  intro G0 H0 G H σ ρ Q I h
  refine sa.use famT I h fun c G1 H1 e1 g1 I1 h1 => ?_
  cases c with
  | false => exact sb G0 H0 G1 H1 σ ρ Q I1 h1
  | true => exact h1 G1 H1 (Grow.refl I1.s)
theorem sw_and1 {a : Expr} {da : TD} {pos : Pos} (ha : ST X E C a da) : SW X E C (.BoolOp .And [a] pos) da := by
  obtain ⟨ta, pa, sa⟩ := ha
  exact ⟨_, pw_and1 pa, sa⟩
theorem sw_or1 {a : Expr} {da : TD} {pos : Pos} (ha : ST X E C a da) : SW X E C (.BoolOp .Or [a] pos) da := by
  obtain ⟨ta, pa, sa⟩ := ha
  exact ⟨_, pw_or1 pa, sa⟩
theorem SW.t {a : Expr} {da : TD} (ha : SW X E C a da) : ST X E C a da := by
  obtain ⟨ta, pa, sa⟩ := ha
  exact ⟨_, pa.pt, sa⟩
theorem st_not {a : Expr} {da : TD} {pos : Pos} (ha : ST X E C a da) : ST X E C (.UnaryOp .Not a pos) (notT da) := by
  obtain ⟨ta, pa, sa⟩ := ha
  refine ⟨_, pt_not pa, ?_⟩
  intro G0 H0 G H σ ρ Q I h
  exact sa.use famT I h fun c G1 H1 e1 g1 I1 h1 => h1 G1 H1 (Grow.refl I1.s)
end
end Z

/-! ## Z4 -/
set_option Elab.async false
set_option linter.all false
set_option maxRecDepth 100000
set_option maxHeartbeats 2000000
namespace Z
open PySem PySem.Spec PyProof.Rows L2

/-! ### a new result becomes known -/
def R.fz : R → R
  | .fr n t => .im (Ty.dat (n + 1) t)
  | r => r
theorem R.fz_dat (r : R) : r.fz.dat = r.dat := by cases r <;> rfl
/-- the outcome of a, with its new lists known for ever -/
theorem SimE.useF {K : PySem.W.Frag} {E : XK} {C : CM} {G0 H0 G H : Hp} {σ : L2.St} {ρ : Env} {β : Type} {P : Hp → Hp → Out β → Prop} (F : Fam E C P) {ta : TE} {a : ED} (ha : SimE K E C ta a) (I : EnvOk K G0 H0 G H σ ρ) {f : R → Out β} (h : P G H ((a ρ).bind f)) {Q : VK}
    (k : ∀ r v G' H', a ρ = .ok r → Grow G H G' H' → EnvOk K G0 H0 G' H' σ ρ → ROk K hpE G' H' r.fz v → P G' H' (f r) → Q v H') : ta σ H Q := by
  refine ha G0 H0 G H σ ρ Q I ?_
  cases e : a ρ with
  | ok r =>
    rw [e] at h
    intro v G' H' g hr
    cases r with
    | im d => exact k _ v G' H' e g (I.grow g) hr (F.up (show P G H (f _) from h) g)
    | ro n t => exact k _ v G' H' e g (I.grow g) hr (F.up (show P G H (f _) from h) g)
    | fr n t =>
      obtain ⟨G2, s2, g2, r2⟩ := hr.freeze g.s g
      exact k _ v G2 H' e g2 (I.grow g2) r2 (F.up (show P G H (f _) from h) g2)
  | ex c => rw [e] at h; exact F.ex h
  | st => rw [e] at h; exact (F.st h).elim

/-! ### arguments: each one's new lists become known -/
@[simp] def nilA : AD := fun _ => .ok []
@[simp] def consA (e : ED) (r : AD) : AD := fun ρ => (e ρ).bind fun x => (r ρ).bind fun xs => .ok (x.fz :: xs)
section
variable {X : Cx} {E : XK} {C : CM}
theorem sa_nil : SA X E C [] nilA := ⟨_, pa_nil, fun G0 H0 G H σ ρ Q I h => h [] G H (Grow.refl I.s) .nil⟩
theorem sa_cons {e : Expr} {es : List Expr} {d : ED} {r : AD} (he : SE X E C e d) (hr : SA X E C es r) (hs : starEach (e :: es) X.env = (false, eval e X.env) :: starEach es X.env := by rfl) : SA X E C (e :: es) (consA d r) := by
  obtain ⟨ta, pa, sa⟩ := he
  obtain ⟨tb, pb, sb⟩ := hr
  refine ⟨_, pa_cons pa pb hs, ?_⟩
  intro G0 H0 G H σ ρ Q I h
  refine sa.useF famA I h fun r1 x G1 H1 e1 g1 I1 k1 h1 => ?_
  refine sb.use famA I1 h1 fun r2 y G2 H2 e2 g2 I2 k2 h2 => ?_
  exact h2 (x :: y) G2 H2 (Grow.refl I2.s) (.cons (k1.grow g2) k2)
theorem ROkA.rp {K : PySem.W.Frag} {H0 G H : Hp} {rs : List R} {vs : List V} (s : Same G H) (h : ROkA K H0 G H rs vs) : RpA K H vs (rs.map R.dat) := by
  induction h with
  | nil => exact .nil
  | cons a _ ih => exact .cons (a.rp s) ih

/-! ### displays -/
/-- all known for ever -/
def ims : List R → Option (List PD)
  | [] => some []
  | .im d :: rs => (ims rs).map (d :: ·)
  | _ => none
theorem ROkA.ims {K : PySem.W.Frag} {H0 G H : Hp} {rs : List R} {vs : List V} {ds : List PD} (h : ROkA K H0 G H rs vs) (e : ims rs = some ds) : RpA K G vs ds := by
  induction h generalizing ds with
  | nil => cases e; exact .nil
  | @cons r rs v vs a _ ih =>
    cases r with
    | im d =>
      simp only [Z.ims, Option.map_eq_some_iff] at e
      obtain ⟨es, e1, e2⟩ := e
      subst e2
      exact .cons a (ih e1)
    | ro n t => simp [Z.ims] at e
    | fr n t => simp [Z.ims] at e
/-- a new list of known things -/
theorem fresh_list {K : PySem.W.Frag} {G H : Hp} {vs : List V} {ds : List PD} {p : Addr} (h : RpA K G vs ds) (hp : H p = none) (s : Same G H) : ROk K H G (upd H p (.lst vs)) (.fr 0 ds) (.ref p) := by
  have hl := h.length
  refine ⟨((p, vs.zip ds) : Addr × List (V × PD)), ?_, rfl, ⟨?_, ?_⟩, ?_, ?_⟩
  · show (vs.zip ds).map (fun x => x.2) = ds
    rw [List.map_snd_zip (by omega)]
  · show upd H p (.lst vs) p = some (.lst ((vs.zip ds).map (fun x => x.1)))
    rw [upd_same, List.map_fst_zip (by omega)]
  · have key : ∀ y ∈ (vs.zip ds : List (V × PD)), Rp K G y.1 y.2 := by
      intro y hy
      obtain ⟨i, hi⟩ := List.mem_iff_getElem?.mp hy
      rw [List.getElem?_zip_eq_some] at hi
      obtain ⟨d, e1, e2⟩ := h.get hi.1
      rw [hi.2] at e1
      cases e1
      exact e2
    exact key
  · have key : ∀ l : List (V × PD), l.Pairwise fun y z => ∀ a ∈ ATy.adr 0 y, a ∉ ATy.adr 0 z := fun l => List.pairwise_of_forall (fun _ _ a ha => nomatch ha)
    exact ⟨fun y _ => ⟨trivial, fun h => nomatch h⟩, key _⟩
  · intro a ha
    have e : a = p := by
      have : a ∈ (p :: (vs.zip ds).flatMap (fun _ => ([] : List Addr))) := ha
      simpa using this
    subst e
    exact ⟨hp, s.free hp⟩
def small : Nat := 100000
theorem le_line {n : Nat} (h : n ≤ 100000) : n ≤ sizeLine := Nat.le_trans h (by decide)
theorem lt_line {n : Nat} (h : n ≤ 100000) : n < sizeLine := Nat.lt_of_le_of_lt h (by decide)
@[simp] def lstD (a : AD) : ED := fun ρ => (a ρ).bind fun rs => match ims rs with
  | some ds => if ds.length ≤ 100000 then .ok (.fr 0 ds) else .st
  | none => .st
@[simp] def tupD (a : AD) : ED := fun ρ => (a ρ).bind fun rs => match ims rs with
  | some ds => if ds.length ≤ 100000 then .ok (.im (.tuple ds)) else .st
  | none => .st
theorem se_lst {es : List Expr} {a : AD} {pos : Pos} (ha : SA X E C es a) : SE X E C (.List es pos) (lstD a) := by
  obtain ⟨ta, pa, sa⟩ := ha
  refine ⟨_, pe_lst pa, ?_⟩
  intro G0 H0 G H σ ρ Q I h
  refine sa.use famO I h fun rs vs G1 H1 e1 g1 I1 k1 h1 => ?_
  cases e : ims rs with
  | none => rw [e] at h1; exact h1.elim
  | some ds =>
    simp only [e] at h1
    have k := k1.ims e
    have hl := k.length
    by_cases c : ds.length ≤ 100000
    · rw [if_pos c] at h1
      refine ⟨by rw [hl]; exact le_line c, fun p hp => ?_⟩
      exact h1 _ G1 _ (Grow.new I1.s hp) (fresh_list k hp I1.s)
    · rw [if_neg c] at h1; exact h1.elim
theorem se_tup {es : List Expr} {a : AD} {x1} {pos : Pos} (ha : SA X E C es a) : SE X E C (.Tuple es x1 pos) (tupD a) := by
  obtain ⟨ta, pa, sa⟩ := ha
  refine ⟨_, pe_tup pa, ?_⟩
  intro G0 H0 G H σ ρ Q I h
  refine sa.use famO I h fun rs vs G1 H1 e1 g1 I1 k1 h1 => ?_
  cases e : ims rs with
  | none => rw [e] at h1; exact h1.elim
  | some ds =>
    simp only [e] at h1
    have k := k1.ims e
    have hl := k.length
    by_cases c : ds.length ≤ 100000
    · rw [if_pos c] at h1
      refine ⟨by rw [hl]; exact le_line c, fun p hp => ?_⟩
      exact h1 _ _ _ (Grow.newK I1.s hp) (.tup upd_same (k.up (same_upd (I1.s.free hp))))
    · rw [if_neg c] at h1; exact h1.elim

/-! ### the items of a list -/
/-- the items, known for ever, of a list that is known or owned -/
def kids : R → Option (List PD)
  | .im (.list ds) => some ds
  | .ro 0 t => some t
  | _ => none
theorem ROk.kids {K : PySem.W.Frag} {H0 G H : Hp} {r : R} {v : V} {ds : List PD} (s : Same G H) (h : ROk K H0 G H r v) (e : kids r = some ds) : ∃ a vs, v = .ref a ∧ H a = some (.lst vs) ∧ RpA K G vs ds := by
  cases r with
  | im d =>
    cases d <;> simp [Z.kids] at e
    subst e
    cases h with
    | lst h1 h2 => exact ⟨_, _, rfl, s _ _ h1, h2⟩
  | ro n t =>
    cases n with
    | zero =>
      have e' : t = ds := Option.some.inj e
      subst e'
      obtain ⟨x, e1, e2, e3, e4⟩ := h
      refine ⟨x.1, x.2.map (fun y : V × PD => y.1), e2.symm, e3, ?_⟩
      subst e1
      show RpA K G (x.2.map (fun y : V × PD => y.1)) (x.2.map (fun y : V × PD => y.2))
      have e4' : ∀ y ∈ (x.2 : List (V × PD)), Rp K G y.1 y.2 := e4
      generalize (x.2 : List (V × PD)) = l at e4'
      induction l with
      | nil => exact .nil
      | cons z l ih => exact .cons (e4' z List.mem_cons_self) (ih fun y hy => e4' y (List.mem_cons_of_mem _ hy))
    | succ n => simp [Z.kids] at e
  | fr n t => simp [Z.kids] at e

/-! ### + -/
@[simp] def addD (a b : ED) : ED := fun ρ => (a ρ).bind fun r1 => (b ρ).bind fun r2 => match r1.dat, r2.dat with
  | .int i, .int j => .ok (.im (.int (i + j)))
  | .str x, .str y => if x.length + y.length ≤ 100000 then .ok (.im (.str (x ++ y))) else .st
  | _, _ => match kids r1.fz, kids r2.fz with
    | some ds, some es => if ds.length + es.length ≤ 100000 then .ok (.fr 0 (ds ++ es)) else .st
    | _, _ => .st
def rAddA : R2 := fun x y H Q => (∃ i j, x = .int i ∧ y = .int j ∧ Q (.int (i + j)) H) ∨ (∃ i j, x = .str i ∧ y = .str j ∧ i.length + j.length ≤ sizeLine ∧ Q (.str (i ++ j)) H) ∨ rCat x y H Q
theorem op_addA : OpR X (binaryOp .Add) rAddA := by
  intro pins s σ H x y v u Q I rx ry h
  rcases h with h | h | h
  · exact op_add pins s σ H x y v u Q I rx ry h
  · exact op_add_str pins s σ H x y v u Q I rx ry h
  · exact op_cat pins s σ H x y v u Q I rx ry h
theorem se_add {a b : Expr} {da db : ED} {pos : Pos} (ha : SE X E C a da) (hb : SE X E C b db) : SE X E C (.BinOp a .Add b pos) (addD da db) := by
  obtain ⟨ta, pa, sa⟩ := ha
  obtain ⟨tb, pb, sb⟩ := hb
  refine ⟨_, pe_op op_addA pa pb, ?_⟩
  intro G0 H0 G H σ ρ Q I h
  refine sa.useF famO I h fun r1 x G1 H1 e1 g1 I1 k1 h1 => ?_
  refine sb.useF famO I1 h1 fun r2 y G2 H2 e2 g2 I2 k2 h2 => ?_
  have k1' := k1.grow g2
  have p1 := k1'.rp I2.s
  have p2 := k2.rp I2.s
  rw [R.fz_dat] at p1 p2
  split at h2
  · rename_i i j q1 q2
    rw [q1] at p1; rw [q2] at p2
    cases p1; cases p2
    exact .inl ⟨i, j, rfl, rfl, h2 _ G2 H2 (Grow.refl I2.s) (.int _)⟩
  · rename_i i j q1 q2
    rw [q1] at p1; rw [q2] at p2
    cases p1; cases p2
    split at h2
    · rename_i c
      exact .inr (.inl ⟨i, j, rfl, rfl, le_line c, h2 _ G2 H2 (Grow.refl I2.s) (.str _)⟩)
    · exact h2.elim
  · split at h2
    · rename_i ds es q1 q2
      split at h2
      · rename_i c
        obtain ⟨p, vs, rfl, hp, rv⟩ := k1'.kids I2.s q1
        obtain ⟨q, us, rfl, hq, ru⟩ := k2.kids I2.s q2
        have l1 := rv.length
        have l2 := ru.length
        exact .inr (.inr ⟨p, q, vs, us, rfl, rfl, hp, hq, le_line (by omega), fun l hl => h2 _ G2 _ (Grow.new I2.s hl) (fresh_list (rv.append ru) hl I2.s)⟩)
      · exact h2.elim
    · exact h2.elim

/-! ### an item, a slice -/
def ixF : R → Int → Option R
  | .im (.list ds), i => (atI ds i).map .im
  | .im (.tuple ds), i => (atI ds i).map .im
  | .im (.dict [(.none, .list ds)]), i => (atI ds i).map .im
  | .im (.str z), i => if z.length ≤ 100000 then (atI z.cps.toList i).map fun c => .im (.str ⟨#[c]⟩) else none
  | .ro 0 t, i => (atI t i).map .im
  | .ro (n + 1) t, i => (atI t i).map (.ro n)
  | _, _ => none
@[simp] def ixD (a b : ED) : ED := fun ρ => (a ρ).bind fun r1 => (b ρ).bind fun r2 => match r2.dat with
  | .int i => match ixF r1.fz i with
    | some r => .ok r
    | none => .st
  | _ => .st
theorem atI_map {α β : Type} (f : α → β) (xs : List α) (i : Int) : atI (xs.map f) i = (atI xs i).map f := by
  unfold atI
  rw [List.length_map]
  cases ixN xs.length i with
  | none => rfl
  | some j => simp
theorem RpA.at {K : PySem.W.Frag} {G : Hp} {vs : List V} {ds : List PD} {i : Int} {d : PD} (h : RpA K G vs ds) (e : atI ds i = some d) : ∃ v, atI vs i = some v ∧ Rp K G v d := by
  unfold atI at e ⊢
  rw [h.length]
  cases q : ixN ds.length i with
  | none => rw [q] at e; cases e
  | some j =>
    rw [q] at e
    exact h.getD e
theorem ixF_ok {K : PySem.W.Frag} {H0 G H : Hp} {r z : R} {v : V} {i : Int} {Q : VK} (s : Same G H) (h : ROk K H0 G H r v) (e : ixF r i = some z) (q : ∀ y, ROk K H0 G H z y → Q y H) : rIx K v (.int i) H Q := by
  unfold ixF at e
  split at e
  · obtain ⟨d, e1, e2⟩ := Option.map_eq_some_iff.mp e
    subst e2
    cases h with
    | lst h1 h2 =>
      obtain ⟨y, ey, ry⟩ := h2.at e1
      exact .inl ⟨_, _, i, y, rfl, rfl, SqL.of (s _ _ h1), ey, q y ry⟩
  · obtain ⟨d, e1, e2⟩ := Option.map_eq_some_iff.mp e
    subst e2
    cases h with
    | tup h1 h2 =>
      obtain ⟨y, ey, ry⟩ := h2.at e1
      exact .inr (.inl ⟨_, _, i, y, rfl, rfl, SqT.of (s _ _ h1), ey, q y ry⟩)
  · obtain ⟨d, e1, e2⟩ := Option.map_eq_some_iff.mp e
    subst e2
    cases h with
    | scr ns h1 =>
      rw [atI_map] at e1
      obtain ⟨j, e3, e4⟩ := Option.map_eq_some_iff.mp e1
      subst e4
      exact .inl ⟨_, _, i, .int j, rfl, rfl, s.seq h1, by rw [atI_map, e3]; rfl, q _ (.int j)⟩
  · split at e
    · rename_i z0 i0 c
      obtain ⟨d, e1, e2⟩ := Option.map_eq_some_iff.mp e
      subst e2
      cases h
      exact .inr (.inr ⟨_, i, d, rfl, rfl, le_line c, e1, q _ (.str _)⟩)
    · cases e
  · rename_i t
    obtain ⟨d, e1, e2⟩ := Option.map_eq_some_iff.mp e
    subst e2
    obtain ⟨a, vs, rfl, ha, rv⟩ := ROk.kids s h (ds := t) rfl
    obtain ⟨y, ey, ry⟩ := rv.at e1
    exact .inl ⟨a, vs, i, y, rfl, rfl, SqL.of ha, ey, q y ry⟩
  · rename_i n t
    obtain ⟨d, e1, e2⟩ := Option.map_eq_some_iff.mp e
    subst e2
    obtain ⟨x, ex, rfl, hx, hk⟩ := h
    subst ex
    have e1' : atI ((x.2 : List (ATy (n + 1))).map (ATy.era (n + 1))) i = some d := e1
    rw [atI_map] at e1'
    obtain ⟨y, e3, e4⟩ := Option.map_eq_some_iff.mp e1'
    have hm : y ∈ (x.2 : List (ATy (n + 1))) := by
      unfold atI at e3
      cases q0 : ixN (x.2 : List (ATy (n + 1))).length i with
      | none => rw [q0] at e3; cases e3
      | some j => rw [q0] at e3; exact List.mem_of_getElem? e3
    exact .inl ⟨x.1, _, i, ATy.val (n + 1) y, rfl, rfl, SqL.of hx, by rw [atI_map, e3]; rfl, q _ ⟨y, e4, rfl, hk y hm⟩⟩
  · cases e
theorem se_ix {a b : Expr} {da db : ED} {pos : Pos} (ha : SE X E C a da) (hb : SE X E C b db) (hs : PlainIx b) : SE X E C (.Subscript a b pos) (ixD da db) := by
  obtain ⟨ta, pa, sa⟩ := ha
  obtain ⟨tb, pb, sb⟩ := hb
  refine ⟨_, pe_ix ix_seq pa pb hs, ?_⟩
  intro G0 H0 G H σ ρ Q I h
  refine sa.useF famO I h fun r1 x G1 H1 e1 g1 I1 k1 h1 => ?_
  refine sb.use famO I1 h1 fun r2 y G2 H2 e2 g2 I2 k2 h2 => ?_
  have p2 := k2.rp I2.s
  split at h2
  · rename_i i q2
    rw [q2] at p2
    cases p2
    split at h2
    · rename_i z q
      refine ixF_ok I2.s (k1.grow g2) q fun y ry => h2 y G2 H2 (Grow.refl I2.s) ?_
      cases z with
      | im d => exact ry
      | ro n t => exact ry
      | fr n t =>
        exfalso
        revert q
        generalize r1.fz = r'
        intro q
        unfold ixF at q
        split at q <;> (try split at q) <;> first
          | cases q
          | (obtain ⟨_, _, q⟩ := Option.map_eq_some_iff.mp q; cases q)
    · exact h2.elim
  · exact h2.elim
def cutL {α : Type} (xs : List α) (lo hi : Option Int) : List α := (xs.drop (HT.sIx xs.length 0 lo)).take (HT.sIx xs.length xs.length hi - HT.sIx xs.length 0 lo)
theorem RpA.cut {K : PySem.W.Frag} {G : Hp} {vs : List V} {ds : List PD} (h : RpA K G vs ds) (lo hi : Option Int) : RpA K G (cutV vs lo hi) (cutL ds lo hi) := by
  unfold cutV cutL
  rw [h.length]
  exact (h.drop _).take _
/-- an optional bound -/
abbrev OD := Env → Out (Option Int)
def noO : OD := fun _ => .ok none
def soO (a : ED) : OD := fun ρ => (a ρ).bind fun r => match r.dat with
  | .int i => .ok (some i)
  | _ => .st
structure SOp (X : Cx) (E : XK) (C : CM) (e : Option Expr) (d : OD) : Prop where
  p : ∃ to, PO X e to ∧ ∀ G0 H0 G H σ ρ (Q : Option Int → Hp → Prop), EnvOk X.K G0 H0 G H σ ρ → (match d ρ with
    | .ok o => ∀ G' H', Grow G H G' H' → Q o H'
    | .ex c => ∀ G' H', Grow G H G' H' → E (C c) none H'
    | .st => False) → to σ H Q
theorem so_none : SOp X E C none noO := ⟨_, po_none, fun G0 H0 G H σ ρ Q I h => h G H (Grow.refl I.s)⟩
def OptOk (E : XK) (C : CM) (Q : Option Int → Hp → Prop) (G H : Hp) : Out (Option Int) → Prop
  | .ok o => ∀ G' H', Grow G H G' H' → Q o H'
  | .ex c => ∀ G' H', Grow G H G' H' → E (C c) none H'
  | .st => False
theorem famOp {Q : Option Int → Hp → Prop} : Fam E C (OptOk E C Q) := ⟨fun {G H G' H' o} h g => by
  cases o with
  | ok r => exact fun G2 H2 g2 => h G2 H2 (g.trans g2)
  | ex c => exact fun G2 H2 g2 => h G2 H2 (g.trans g2)
  | st => exact h, fun h => h, fun h => h⟩
theorem so_some {e : Expr} {a : ED} (ha : SE X E C e a) : SOp X E C (some e) (soO a) := by
  obtain ⟨ta, pa, sa⟩ := ha
  refine ⟨_, po_some pa, fun G0 H0 G H σ ρ Q I h => ?_⟩
  refine sa.use (P := OptOk E C Q) famOp I (f := fun r => match r.dat with
    | .int i => .ok (some i)
    | _ => .st) h fun r1 x G1 H1 e1 g1 I1 k1 h1 => ?_
  have k := k1.rp I1.s
  split at h1
  · rename_i i q
    rw [q] at k
    cases k
    exact ⟨i, rfl, h1 G1 H1 (Grow.refl I1.s)⟩
  · exact h1.elim
/-- xs[lo:hi] of a list -/
def kidsS : R → Option (List PD)
  | .im (.dict [(.none, .list ds)]) => some ds
  | r => kids r
def slD (a : ED) (l u : OD) : ED := fun ρ => (a ρ).bind fun r => (l ρ).bind fun lo => (u ρ).bind fun hi => match kidsS r.fz with
  | some ds => .ok (.fr 0 (cutL ds lo hi))
  | none => .st
theorem ROk.kidsS {K : PySem.W.Frag} {H0 G H : Hp} {r : R} {v : V} {ds : List PD} (s : Same G H) (h : ROk K H0 G H r v) (e : kidsS r = some ds) : ∃ a vs, v = .ref a ∧ SqL K H a vs ∧ RpA K G vs ds := by
  unfold Z.kidsS at e
  split at e
  · cases e
    cases h with
    | scr ns h1 => exact ⟨_, _, rfl, s.seq h1, rpA_ints ns⟩
  · obtain ⟨a, vs, e1, e2, e3⟩ := ROk.kids s h e
    exact ⟨a, vs, e1, SqL.of e2, e3⟩
theorem se_sl {e : Expr} {lo hi : Option Expr} {a : ED} {l u : OD} {p2 pos : Pos} (ha : SE X E C e a) (hl : SOp X E C lo l) (hu : SOp X E C hi u) : SE X E C (.Subscript e (.Slice lo hi none p2) pos) (slD a l u) := by
  obtain ⟨ta, pa, sa⟩ := ha
  obtain ⟨tl, pl, sl⟩ := hl
  obtain ⟨tu, pu, su⟩ := hu
  refine ⟨_, pe_slice sl_list pa pl pu, ?_⟩
  intro G0 H0 G H σ ρ Q I h
  refine sa.useF famO I h fun r1 x G1 H1 e1 g1 I1 k1 h1 => ?_
  refine sl G0 H0 G1 H1 σ ρ _ I1 ?_
  cases el : l ρ with
  | st => rw [el] at h1; exact h1
  | ex c => rw [el] at h1; exact h1
  | ok o1 =>
    rw [el] at h1
    intro G2 H2 g2
    have h2 := OOk.up (show OOk X.K E C G1 H1 Q ((u ρ).bind fun hi => match kidsS r1.fz with
      | some ds => .ok (.fr 0 (cutL ds o1 hi))
      | none => .st) from h1) g2
    have I2 := I1.grow g2
    refine su G0 H0 G2 H2 σ ρ _ I2 ?_
    cases eu : u ρ with
    | st => rw [eu] at h2; exact h2
    | ex c => rw [eu] at h2; exact h2
    | ok o2 =>
      rw [eu] at h2
      intro G3 H3 g3
      have I3 := I2.grow g3
      have h3 := OOk.up (show OOk X.K E C G2 H2 Q (match kidsS r1.fz with
        | some ds => .ok (.fr 0 (cutL ds o1 o2))
        | none => .st) from h2) g3
      have k := k1.grow (g2.trans g3)
      split at h3
      · rename_i ds q
        obtain ⟨p, vs, rfl, hp, rv⟩ := k.kidsS I3.s q
        exact ⟨p, vs, rfl, hp, fun q hq => h3 _ G3 _ (Grow.new I3.s hq) (fresh_list (rv.cut o1 o2) hq I3.s)⟩
      · exact h3.elim
end
end Z

/-! ## Z5 -/
set_option Elab.async false
set_option linter.all false
set_option maxRecDepth 100000
set_option maxHeartbeats 2000000
namespace Z
open PySem PySem.Spec PyProof.Rows L2
section
variable {X : Cx} {E : XK} {C : CM}

/-! ### built-ins with a flat answer -/
@[simp] def cbD (f : List PD → Option PD) (a : AD) : ED := fun ρ => (a ρ).bind fun rs => match f (rs.map R.dat) with
  | some d => .ok (.im d)
  | none => .st
def LkC (K : PySem.W.Frag) (r : List V → Hp → VK → Prop) (f : List PD → Option PD) : Prop := ∀ (H : Hp) (xs : List V) (ds : List PD) (z : PD) (Q : VK), RpA K H xs ds → f ds = some z → ∃ v, scV z = some v ∧ (Q v H → r xs H Q)
theorem sim_cb {K : PySem.W.Frag} {r : List V → Hp → VK → Prop} {f : List PD → Option PD} {ta : TA} {a : AD} (l : LkC K r f) (ha : SimA K E C ta a) : SimE K E C (fun σ H Q => ta σ H fun xs H1 => r xs H1 Q) (cbD f a) := by
  intro G0 H0 G H σ ρ Q I h
  refine ha.use famO I h fun rs vs G1 H1 e1 g1 I1 k1 h1 => ?_
  cases e : f (rs.map R.dat) with
  | none => rw [e] at h1; exact h1.elim
  | some z =>
    rw [e] at h1
    obtain ⟨v, ev, hr⟩ := l H1 vs _ z Q (k1.rp I1.s) e
    exact hr (h1 v G1 H1 (Grow.refl I1.s) (rp_sc ev))
theorem se_cb {id : String} {x : Str} {r : List V → Hp → VK → Prop} {f : List PD → Option PD} {e : Expr} {es : List Expr} {a : AD} {p pos : Pos} (hc : CallR X (.builtin id) r) (l : LkC X.K r f) (hg : Gl X x) (hm : X.mg x = none) (hv : bootBuiltins x = some (.builtin id)) (ha : SA X E C (e :: es) a) (hn : x ≠ "__name__" := by decide) (hdb : (x == ("__debug__" : Str)) = false := by decide)
    (he : starEach (e :: es) X.env = (false, eval e X.env) :: starEach es X.env := by rfl) (hpl : (backTo pos (starEach es X.env)).any (·.1) = false := by rfl) :
    SE X E C (.Call (.Name x p) (e :: es) [] pos) (cbD f a) := by
  obtain ⟨ta, pa, sa⟩ := ha
  exact ⟨_, pe_callB hc hg hm hv pa hn hdb he hpl, sim_cb l sa⟩
theorem se_cty {id : String} {x : Str} {r : List V → Hp → VK → Prop} {f : List PD → Option PD} {e : Expr} {es : List Expr} {a : AD} {p pos : Pos} (hc : CallR X (.type id) r) (l : LkC X.K r f) (hg : Gl X x) (hm : X.mg x = none) (hv : bootBuiltins x = some (.type id)) (ha : SA X E C (e :: es) a) (hn : x ≠ "__name__" := by decide) (hdb : (x == ("__debug__" : Str)) = false := by decide)
    (he : starEach (e :: es) X.env = (false, eval e X.env) :: starEach es X.env := by rfl) (hpl : (backTo pos (starEach es X.env)).any (·.1) = false := by rfl) :
    SE X E C (.Call (.Name x p) (e :: es) [] pos) (cbD f a) := by
  obtain ⟨ta, pa, sa⟩ := ha
  exact ⟨_, pe_callTy hc hg hm hv pa hn hdb he hpl, sim_cb l sa⟩
theorem rpA_one {K : PySem.W.Frag} {H : Hp} {xs : List V} {d : PD} (h : RpA K H xs [d]) : ∃ x, xs = [x] ∧ Rp K H x d := by
  cases h with
  | cons h1 h2 => cases h2; exact ⟨_, rfl, h1⟩
theorem rpA_two {K : PySem.W.Frag} {H : Hp} {xs : List V} {d e : PD} (h : RpA K H xs [d, e]) : ∃ x y, xs = [x, y] ∧ Rp K H x d ∧ Rp K H y e := by
  cases h with
  | cons h1 h2 => obtain ⟨y, rfl, h3⟩ := rpA_one h2; exact ⟨_, y, rfl, h1, h3⟩
def lenF : List PD → Option PD
  | [.list ds] => some (.int (ds.length : Nat))
  | [.tuple ds] => some (.int (ds.length : Nat))
  | [.dict [(.none, .list ds)]] => some (.int (ds.length : Nat))
  | [.str z] => if z.length ≤ 100000 then some (.int (z.length : Nat)) else none
  | _ => none
theorem lk_len {K : PySem.W.Frag} : LkC K (fun xs H Q => ∃ x n, xs = [x] ∧ LenV K x H n ∧ Q (.int (n : Nat)) H) lenF := by
  intro H xs ds z Q h e
  unfold lenF at e
  split at e
  · cases e
    obtain ⟨x, rfl, r⟩ := rpA_one h
    cases r with
    | lst h1 h2 => exact ⟨_, rfl, fun q => ⟨_, _, rfl, .inl ⟨_, SqL.of h1, rfl⟩, by rw [h2.length]; exact q⟩⟩
  · cases e
    obtain ⟨x, rfl, r⟩ := rpA_one h
    cases r with
    | tup h1 h2 => exact ⟨_, rfl, fun q => ⟨_, _, rfl, .inr ⟨_, SqT.of h1, rfl⟩, by rw [h2.length]; exact q⟩⟩
  · cases e
    obtain ⟨x, rfl, r⟩ := rpA_one h
    cases r with
    | scr ns h1 => exact ⟨_, rfl, fun q => ⟨_, _, rfl, .inl ⟨_, h1, rfl⟩, by rw [List.length_map] at q ⊢; exact q⟩⟩
  · split at e
    · rename_i c
      cases e
      obtain ⟨x, rfl, r⟩ := rpA_one h
      cases r
      exact ⟨_, rfl, fun q => ⟨_, _, rfl, ⟨le_line c, rfl⟩, q⟩⟩
    · cases e
  · cases e
def intsOf : List PD → Option (List Int)
  | [] => some []
  | .int i :: r => (intsOf r).map (i :: ·)
  | _ => none
theorem intsOf_eq : ∀ {ds : List PD} {ns : List Int}, intsOf ds = some ns → ds = ns.map PyData.int
  | [], _, h => by cases h; rfl
  | .int i :: r, ns, h => by
    simp only [intsOf, Option.map_eq_some_iff] at h
    obtain ⟨ms, h1, rfl⟩ := h
    rw [intsOf_eq h1] <;> rfl
  | .none :: _, _, h => by simp [intsOf] at h
  | .bool _ :: _, _, h => by simp [intsOf] at h
  | .str _ :: _, _, h => by simp [intsOf] at h
  | .list _ :: _, _, h => by simp [intsOf] at h
  | .tuple _ :: _, _, h => by simp [intsOf] at h
  | .dict _ :: _, _, h => by simp [intsOf] at h
theorem intsOf_map (ns : List Int) : intsOf (ns.map PyData.int) = some ns := by
  induction ns with
  | nil => rfl
  | cons n ns ih => show (intsOf (ns.map PyData.int)).map (n :: ·) = _; rw [ih]; rfl
def boolsOf : List PD → Option (List Bool)
  | [] => some []
  | .bool i :: r => (boolsOf r).map (i :: ·)
  | _ => none
theorem boolsOf_eq : ∀ {ds : List PD} {ns : List Bool}, boolsOf ds = some ns → ds = ns.map PyData.bool
  | [], _, h => by cases h; rfl
  | .bool i :: r, ns, h => by
    simp only [boolsOf, Option.map_eq_some_iff] at h
    obtain ⟨ms, h1, rfl⟩ := h
    rw [boolsOf_eq h1] <;> rfl
  | .none :: _, _, h => by simp [boolsOf] at h
  | .int _ :: _, _, h => by simp [boolsOf] at h
  | .str _ :: _, _, h => by simp [boolsOf] at h
  | .list _ :: _, _, h => by simp [boolsOf] at h
  | .tuple _ :: _, _, h => by simp [boolsOf] at h
  | .dict _ :: _, _, h => by simp [boolsOf] at h
theorem boolsOf_map (ns : List Bool) : boolsOf (ns.map PyData.bool) = some ns := by
  induction ns with
  | nil => rfl
  | cons n ns ih => show (boolsOf (ns.map PyData.bool)).map (n :: ·) = _; rw [ih]; rfl
/-- the ints of a list -/
def ofInts (f : List Int → Option PD) : List PD → Option PD
  | [.list ds] => (intsOf ds).bind f
  | _ => none
theorem ofInts_lk {K : PySem.W.Frag} {r : List V → Hp → VK → Prop} {f : List Int → Option PD} (h : ∀ (H : Hp) (a : Addr) (ns : List Int) (z : PD) (Q : VK), SqL K H a (ns.map V.int) → f ns = some z → ∃ v, scV z = some v ∧ (Q v H → r [.ref a] H Q)) : LkC K r (ofInts f) := by
  intro H xs ds z Q hr e
  unfold ofInts at e
  split at e
  · obtain ⟨ns, e1, e2⟩ := Option.bind_eq_some_iff.mp e
    obtain ⟨x, rfl, r⟩ := rpA_one hr
    rw [intsOf_eq e1] at r
    cases r with
    | lst h1 h2 =>
      rw [h2.ints] at h1
      exact h H _ ns z Q (SqL.of h1) e2
  · cases e
def ofBools (f : List Bool → Option PD) : List PD → Option PD
  | [.list ds] => (boolsOf ds).bind f
  | _ => none
theorem ofBools_lk {K : PySem.W.Frag} {r : List V → Hp → VK → Prop} {f : List Bool → Option PD} (h : ∀ (H : Hp) (a : Addr) (ns : List Bool) (z : PD) (Q : VK), SqL K H a (ns.map V.bl) → f ns = some z → ∃ v, scV z = some v ∧ (Q v H → r [.ref a] H Q)) : LkC K r (ofBools f) := by
  intro H xs ds z Q hr e
  unfold ofBools at e
  split at e
  · obtain ⟨ns, e1, e2⟩ := Option.bind_eq_some_iff.mp e
    obtain ⟨x, rfl, r⟩ := rpA_one hr
    rw [boolsOf_eq e1] at r
    cases r with
    | lst h1 h2 =>
      rw [h2.bools] at h1
      exact h H _ ns z Q (SqL.of h1) e2
  · cases e
@[simp] def sumF : List PD → Option PD := ofInts fun ns => some (.int ns.sum)
theorem lk_sum {K : PySem.W.Frag} : LkC K (rSum K) sumF := ofInts_lk fun H a ns z Q h e => by
  cases e
  exact ⟨_, rfl, fun q => ⟨a, ns, rfl, h, q⟩⟩
/-- the greatest, the least of a list that isn't empty -/
def maxL : List Int → Int
  | [] => 0
  | x :: r => r.foldl max x
def minL : List Int → Int
  | [] => 0
  | x :: r => r.foldl min x
theorem foldl_max_ge : ∀ (r : List Int) (x : Int), x ≤ r.foldl max x ∧ ∀ y ∈ r, y ≤ r.foldl max x
  | [], x => ⟨Int.le_refl _, fun _ h => nomatch h⟩
  | z :: r, x => by
    have ih := foldl_max_ge r (max x z)
    refine ⟨Int.le_trans (Int.le_max_left x z) ih.1, fun y hy => ?_⟩
    rcases List.mem_cons.mp hy with rfl | hy
    · exact Int.le_trans (Int.le_max_right x y) ih.1
    · exact ih.2 y hy
theorem foldl_max_mem : ∀ (r : List Int) (x : Int), r.foldl max x = x ∨ r.foldl max x ∈ r
  | [], x => .inl rfl
  | z :: r, x => by
    rcases foldl_max_mem r (max x z) with h | h
    · have : max x z = x ∨ max x z = z := by omega
      rcases this with e | e
      · exact .inl (h.trans e)
      · exact .inr (by show r.foldl max (max x z) ∈ z :: r; rw [h, e]; exact List.mem_cons_self)
    · exact .inr (List.mem_cons_of_mem _ h)
theorem foldl_min_le : ∀ (r : List Int) (x : Int), r.foldl min x ≤ x ∧ ∀ y ∈ r, r.foldl min x ≤ y
  | [], x => ⟨Int.le_refl _, fun _ h => nomatch h⟩
  | z :: r, x => by
    have ih := foldl_min_le r (min x z)
    refine ⟨Int.le_trans ih.1 (Int.min_le_left x z), fun y hy => ?_⟩
    rcases List.mem_cons.mp hy with rfl | hy
    · exact Int.le_trans ih.1 (Int.min_le_right x y)
    · exact ih.2 y hy
theorem foldl_min_mem : ∀ (r : List Int) (x : Int), r.foldl min x = x ∨ r.foldl min x ∈ r
  | [], x => .inl rfl
  | z :: r, x => by
    rcases foldl_min_mem r (min x z) with h | h
    · have : min x z = x ∨ min x z = z := by omega
      rcases this with e | e
      · exact .inl (h.trans e)
      · exact .inr (by show r.foldl min (min x z) ∈ z :: r; rw [h, e]; exact List.mem_cons_self)
    · exact .inr (List.mem_cons_of_mem _ h)
theorem maxL_mem {ns : List Int} (h : ns ≠ []) : maxL ns ∈ ns := by
  cases ns with
  | nil => exact absurd rfl h
  | cons x r =>
    rcases foldl_max_mem r x with e | e
    · show r.foldl max x ∈ x :: r; rw [e]; exact List.mem_cons_self
    · exact List.mem_cons_of_mem _ e
theorem maxL_ge {ns : List Int} {y : Int} (h : y ∈ ns) : y ≤ maxL ns := by
  cases ns with
  | nil => cases h
  | cons x r =>
    rcases List.mem_cons.mp h with rfl | h
    · exact (foldl_max_ge r y).1
    · exact (foldl_max_ge r x).2 y h
theorem minL_mem {ns : List Int} (h : ns ≠ []) : minL ns ∈ ns := by
  cases ns with
  | nil => exact absurd rfl h
  | cons x r =>
    rcases foldl_min_mem r x with e | e
    · show r.foldl min x ∈ x :: r; rw [e]; exact List.mem_cons_self
    · exact List.mem_cons_of_mem _ e
theorem minL_le {ns : List Int} {y : Int} (h : y ∈ ns) : minL ns ≤ y := by
  cases ns with
  | nil => cases h
  | cons x r =>
    rcases List.mem_cons.mp h with rfl | h
    · exact (foldl_min_le r y).1
    · exact (foldl_min_le r x).2 y h
@[simp] def maxF : List PD → Option PD := ofInts fun ns => if ns = [] then none else some (.int (maxL ns))
@[simp] def minF : List PD → Option PD := ofInts fun ns => if ns = [] then none else some (.int (minL ns))
theorem lk_max {K : PySem.W.Frag} : LkC K (rMax K) maxF := ofInts_lk fun H a ns z Q h e => by
  split at e
  · cases e
  · rename_i c
    cases e
    refine ⟨_, rfl, fun q => ⟨a, ns, rfl, h, List.length_pos_iff.mpr c, fun m hm hl => ?_⟩⟩
    have e1 : m = maxL ns := Int.le_antisymm (maxL_ge hm) (hl _ (maxL_mem c))
    rw [e1]
    exact q
theorem lk_min {K : PySem.W.Frag} : LkC K (rMin K) minF := ofInts_lk fun H a ns z Q h e => by
  split at e
  · cases e
  · rename_i c
    cases e
    refine ⟨_, rfl, fun q => ⟨a, ns, rfl, h, List.length_pos_iff.mpr c, fun m hm hl => ?_⟩⟩
    have e1 : m = minL ns := Int.le_antisymm (hl _ (minL_mem c)) (minL_le hm)
    rw [e1]
    exact q
@[simp] def allF : List PD → Option PD := ofBools fun bs => some (.bool (bs.all id))
@[simp] def anyF : List PD → Option PD := ofBools fun bs => some (.bool (bs.any id))
theorem lk_all {K : PySem.W.Frag} : LkC K (rAll K) allF := ofBools_lk fun H a ns z Q h e => by
  cases e
  exact ⟨_, rfl, fun q => ⟨a, ns, rfl, h, q⟩⟩
theorem lk_any {K : PySem.W.Frag} : LkC K (rAny K) anyF := ofBools_lk fun H a ns z Q h e => by
  cases e
  exact ⟨_, rfl, fun q => ⟨a, ns, rfl, h, q⟩⟩
def max2F : List PD → Option PD
  | [.int i, .int j] => some (.int (if j > i then j else i))
  | _ => none
def min2F : List PD → Option PD
  | [.int i, .int j] => some (.int (if j < i then j else i))
  | _ => none
theorem lk_max2 {K : PySem.W.Frag} : LkC K (fun xs H Q => ∃ i j, xs = [.int i, .int j] ∧ Q (.int (if j > i then j else i)) H) max2F := by
  intro H xs ds z Q h e
  unfold max2F at e
  split at e
  · cases e
    obtain ⟨x, y, rfl, r1, r2⟩ := rpA_two h
    cases r1; cases r2
    exact ⟨_, rfl, fun q => ⟨_, _, rfl, q⟩⟩
  · cases e
theorem lk_min2 {K : PySem.W.Frag} : LkC K (fun xs H Q => ∃ i j, xs = [.int i, .int j] ∧ Q (.int (if j < i then j else i)) H) min2F := by
  intro H xs ds z Q h e
  unfold min2F at e
  split at e
  · cases e
    obtain ⟨x, y, rfl, r1, r2⟩ := rpA_two h
    cases r1; cases r2
    exact ⟨_, rfl, fun q => ⟨_, _, rfl, q⟩⟩
  · cases e
def intF : List PD → Option PD
  | [.int i] => some (.int i)
  | [.bool b] => some (.int (if b then 1 else 0))
  | _ => none
theorem lk_int1 {K : PySem.W.Frag} : LkC K (fun xs H Q => (∃ i, xs = [.int i] ∧ Q (.int i) H) ∨ ∃ k, xs = [.bl k] ∧ Q (.int (if k then 1 else 0)) H) intF := by
  intro H xs ds z Q h e
  unfold intF at e
  split at e
  · cases e
    obtain ⟨x, rfl, r1⟩ := rpA_one h
    cases r1
    exact ⟨_, rfl, fun q => .inl ⟨_, rfl, q⟩⟩
  · cases e
    obtain ⟨x, rfl, r1⟩ := rpA_one h
    cases r1
    exact ⟨_, rfl, fun q => .inr ⟨_, rfl, q⟩⟩
  · cases e

/-! ### built-ins that make a list -/
/-- the items of a list or a tuple -/
def kidsT : R → Option (List PD)
  | .im (.tuple ds) => some ds
  | r => kidsS r
theorem ROk.kidsT {K : PySem.W.Frag} {H0 G H : Hp} {r : R} {v : V} {ds : List PD} (s : Same G H) (h : ROk K H0 G H r v) (e : kidsT r = some ds) : ∃ a vs, v = .ref a ∧ (SqL K H a vs ∨ SqT K H a vs) ∧ RpA K G vs ds := by
  unfold Z.kidsT at e
  split at e
  · cases e
    cases h with
    | tup h1 h2 => exact ⟨_, _, rfl, .inr (SqT.of (s _ _ h1)), h2⟩
  · obtain ⟨a, vs, e1, e2, e3⟩ := ROk.kidsS s h e
    exact ⟨a, vs, e1, .inl e2, e3⟩
@[simp] def listD (a : AD) : ED := fun ρ => (a ρ).bind fun rs => match rs with
  | [r] => match kidsT r with
    | some ds => .ok (.fr 0 ds)
    | none => .st
  | _ => .st
theorem ROkA.one {K : PySem.W.Frag} {H0 G H : Hp} {r : R} {vs : List V} (h : ROkA K H0 G H [r] vs) : ∃ v, vs = [v] ∧ ROk K H0 G H r v := by
  cases h with
  | cons a b => cases b; exact ⟨_, rfl, a⟩
theorem se_list {e : Expr} {es : List Expr} {a : AD} {p pos : Pos} (hg : Gl X "list") (hm : X.mg "list" = none) (ha : SA X E C (e :: es) a)
    (he : starEach (e :: es) X.env = (false, eval e X.env) :: starEach es X.env := by rfl) (hpl : (backTo pos (starEach es X.env)).any (·.1) = false := by rfl) :
    SE X E C (.Call (.Name "list" p) (e :: es) [] pos) (listD a) := by
  obtain ⟨ta, pa, sa⟩ := ha
  refine ⟨_, pe_callTy call_list_of hg hm boot_list pa (he := he) (hpl := hpl), ?_⟩
  intro G0 H0 G H σ ρ Q I h
  refine sa.use famO I h fun rs vs G1 H1 e1 g1 I1 k1 h1 => ?_
  split at h1
  · rename_i r
    split at h1
    · rename_i ds q
      obtain ⟨v, rfl, k2⟩ := k1.one
      obtain ⟨a, us, rfl, hs, ru⟩ := k2.kidsT I1.s q
      exact ⟨a, us, rfl, hs, fun l hl => h1 _ G1 _ (Grow.new I1.s hl) (fresh_list ru hl I1.s)⟩
    · exact h1.elim
  · exact h1.elim
/-- ints, rising -/
def sortI (ns : List Int) : List Int := ns.mergeSort fun a b => decide (a ≤ b)
theorem sortI_perm (ns : List Int) : (sortI ns).Perm ns := List.mergeSort_perm ns _
theorem sortI_sorted (ns : List Int) : (sortI ns).Pairwise (· ≤ ·) := by
  have h := List.pairwise_mergeSort (le := fun a b : Int => decide (a ≤ b)) (fun a b c h1 h2 => by simp at *; omega) (fun a b => by simp; omega) ns
  exact h.imp fun h => by simpa using h
theorem sortI_unique {ns ms : List Int} (p : ms.Perm ns) (s : ms.Pairwise (· ≤ ·)) : ms = sortI ns :=
  (p.trans (sortI_perm ns).symm).eq_of_pairwise (fun x y _ _ h1 h2 => Int.le_antisymm h1 h2) s (sortI_sorted ns)
@[simp] def sortD (a : AD) : ED := fun ρ => (a ρ).bind fun rs => match rs.map R.dat with
  | [.list ds] => match intsOf ds with
    | some ns => .ok (.fr 0 (@List.map Int PD PyData.int (sortI ns)))
    | none => .st
  | _ => .st
theorem se_sorted {e : Expr} {es : List Expr} {a : AD} {p pos : Pos} (hg : Gl X "sorted") (hm : X.mg "sorted" = none) (ha : SA X E C (e :: es) a)
    (he : starEach (e :: es) X.env = (false, eval e X.env) :: starEach es X.env := by rfl) (hpl : (backTo pos (starEach es X.env)).any (·.1) = false := by rfl) :
    SE X E C (.Call (.Name "sorted" p) (e :: es) [] pos) (sortD a) := by
  obtain ⟨ta, pa, sa⟩ := ha
  refine ⟨_, pe_callB cr_sortedI hg hm (by decide +kernel) pa (he := he) (hpl := hpl), ?_⟩
  intro G0 H0 G H σ ρ Q I h
  refine sa.use famO I h fun rs vs G1 H1 e1 g1 I1 k1 h1 => ?_
  have k := k1.rp I1.s
  split at h1
  · rename_i ds q
    rw [q] at k
    split at h1
    · rename_i ns q2
      obtain ⟨v, rfl, k2⟩ := rpA_one k
      rw [intsOf_eq q2] at k2
      cases k2 with
      | lst h3 h4 =>
        rw [h4.ints] at h3
        refine ⟨_, ns, rfl, SqL.of h3, fun ns' p hp hs hl => ?_⟩
        rw [sortI_unique hp hs]
        exact h1 _ G1 _ (Grow.new I1.s hl) (fresh_list (rpA_ints _) hl I1.s)
    · exact h1.elim
  · exact h1.elim
/-- list(range(n)) -/
def rangeL (a b : Int) : List Int := (List.range (b - a).toNat).map fun i => a + (i : Nat)
@[simp] noncomputable def lrgD (a : ED) : ED := fun ρ => (a ρ).bind fun r => match r.dat with
  | .int n => @ite _ (-100000 ≤ n ∧ n ≤ 100000) (Classical.propDecidable _) (.ok (.fr 0 (@List.map Int PD PyData.int (rangeL 0 n)))) .st
  | _ => .st
theorem rgV_eq (a b : Int) : rgV a b = (rangeL a b).map V.int := by
  unfold rgV rangeL
  rw [List.map_map]
  rfl
theorem se_lrg {e : Expr} {a : ED} {p q pos pos2 : Pos} (hc : X.calm = true) (hg : Gl X "list") (hm : X.mg "list" = none) (hg2 : Gl X "range") (hm2 : X.mg "range" = none) (ha : SE X E C e a)
    (na : starEach [e] X.env = (false, eval e X.env) :: starEach [] X.env := by rfl) (nb : starEach [.Call (.Name "range" q) [e] [] pos2] X.env = (false, eval (.Call (.Name "range" q) [e] [] pos2) X.env) :: starEach [] X.env := by rfl) :
    SE X E C (.Call (.Name "list" p) [.Call (.Name "range" q) [e] [] pos2] [] pos) (lrgD a) := by
  obtain ⟨ta, pa, sa⟩ := ha
  refine ⟨_, pe_listRg hc hg hm (prg_1 hg2 hm2 pa na) nb, ?_⟩
  intro G0 H0 G H σ ρ Q I h
  refine sa.use famO I h fun r v G1 H1 e1 g1 I1 k1 h1 => ?_
  have k := k1.rp I1.s
  split at h1
  · rename_i n q
    rw [q] at k
    cases k
    split at h1
    · rename_i c
      refine ⟨n, rfl, ⟨by omega, by omega, by omega, by omega, by omega⟩, fun l hl => ?_⟩
      rw [rgV_eq]
      exact h1 _ G1 _ (Grow.new I1.s hl) (fresh_list (rpA_ints _) hl I1.s)
    · exact h1.elim
  · exact h1.elim

/-! ### what a value is -/
def tyP : PD → String
  | .none => "NoneType"
  | .bool _ => "bool"
  | .int _ => "int"
  | .str _ => "str"
  | .list _ => "list"
  | .tuple _ => "tuple"
  | .dict [] => "dict"
  | .dict _ => "list"
theorem Rp.ty {K : PySem.W.Frag} {H : Hp} {x : V} {d : PD} (h : Rp K H x d) : TyB K H x (tyP d) := by
  cases h with
  | non => exact .non
  | bl b => exact .bl b
  | int i => exact .int i
  | str x => exact .str x
  | lst h1 h2 => exact .lst (SqL.of h1)
  | tup h1 h2 => exact .tup (SqT.of h1)
  | emp h1 => exact .dK h1
  | scr ns h1 => exact .lst h1
/-- type(e) is T, type(e) is not T -/
@[simp] def tyD (f : Bool → Bool) (T : String) (a : ED) : ED := fun ρ => (a ρ).bind fun r => .ok (.im (.bool (f (decide (tyP r.dat = T)))))
theorem se_ty {e : Expr} {x : Str} {T : String} {a : ED} {p q pos pos2 : Pos} (hg : Gl X "type") (hm : X.mg "type" = none) (hgT : Gl X x) (hmT : X.mg x = none) (hv : bootBuiltins x = some (.type T)) (ha : SE X E C e a) (hn : x ≠ "__name__" := by decide) (hd : (x == ("__debug__" : Str)) = false := by decide)
    (na : starEach [e] X.env = (false, eval e X.env) :: starEach [] X.env := by rfl) (hb : behindInMarks .Is (.Name x q) = false := by rfl) :
    SE X E C (.Compare (.Call (.Name "type" p) [e] [] pos2) [.Is] [.Name x q] pos) (tyD id T a) := by
  obtain ⟨ta, pa, sa⟩ := ha
  refine ⟨_, pe_cmpR op_isTy (pe_callTy call_type1 hg hm (by decide +kernel) (pa_cons pa pa_nil na) (he := na)) (pe_bltn (v := .ty T) hgT hmT hv rfl hn hd) hb, ?_⟩
  intro G0 H0 G H σ ρ Q I h
  refine sa.use famO I h fun r v G1 H1 e1 g1 I1 k1 h1 => ?_
  have k := k1.rp I1.s
  exact ⟨v, _, rfl, k.ty, _, T, rfl, rfl, h1 _ G1 H1 (Grow.refl I1.s) (.bl _)⟩
theorem se_nty {e : Expr} {x : Str} {T : String} {a : ED} {p q pos pos2 : Pos} (hg : Gl X "type") (hm : X.mg "type" = none) (hgT : Gl X x) (hmT : X.mg x = none) (hv : bootBuiltins x = some (.type T)) (ha : SE X E C e a) (hn : x ≠ "__name__" := by decide) (hd : (x == ("__debug__" : Str)) = false := by decide)
    (na : starEach [e] X.env = (false, eval e X.env) :: starEach [] X.env := by rfl) (hb : behindInMarks .IsNot (.Name x q) = false := by rfl) :
    SE X E C (.Compare (.Call (.Name "type" p) [e] [] pos2) [.IsNot] [.Name x q] pos) (tyD not T a) := by
  obtain ⟨ta, pa, sa⟩ := ha
  refine ⟨_, pe_cmpR op_isNotTy (pe_callTy call_type1 hg hm (by decide +kernel) (pa_cons pa pa_nil na) (he := na)) (pe_bltn (v := .ty T) hgT hmT hv rfl hn hd) hb, ?_⟩
  intro G0 H0 G H σ ρ Q I h
  refine sa.use famO I h fun r v G1 H1 e1 g1 I1 k1 h1 => ?_
  have k := k1.rp I1.s
  exact ⟨v, _, rfl, k.ty, _, T, rfl, rfl, h1 _ G1 H1 (Grow.refl I1.s) (.bl _)⟩
theorem st_ty {e : Expr} {x : Str} {T : String} {a : ED} {p q pos pos2 : Pos} (hg : Gl X "type") (hm : X.mg "type" = none) (hgT : Gl X x) (hmT : X.mg x = none) (hv : bootBuiltins x = some (.type T)) (ha : SE X E C e a) (hn : x ≠ "__name__" := by decide) (hd : (x == ("__debug__" : Str)) = false := by decide)
    (na : starEach [e] X.env = (false, eval e X.env) :: starEach [] X.env := by rfl) (hb : behindInMarks .Is (.Name x q) = false := by rfl) :
    ST X E C (.Compare (.Call (.Name "type" p) [e] [] pos2) [.Is] [.Name x q] pos) (tstD (tyD id T a)) := by
  obtain ⟨ta, pa, sa⟩ := ha
  refine ⟨_, pt_cmpR op_isTy (pe_callTy call_type1 hg hm (by decide +kernel) (pa_cons pa pa_nil na) (he := na)) (pe_bltn (v := .ty T) hgT hmT hv rfl hn hd) hb, sim_tst ?_⟩
  intro G0 H0 G H σ ρ Q I h
  refine sa.use famO I h fun r v G1 H1 e1 g1 I1 k1 h1 => ?_
  have k := k1.rp I1.s
  exact ⟨v, _, rfl, k.ty, _, T, rfl, rfl, h1 _ G1 H1 (Grow.refl I1.s) (.bl _)⟩
theorem st_nty {e : Expr} {x : Str} {T : String} {a : ED} {p q pos pos2 : Pos} (hg : Gl X "type") (hm : X.mg "type" = none) (hgT : Gl X x) (hmT : X.mg x = none) (hv : bootBuiltins x = some (.type T)) (ha : SE X E C e a) (hn : x ≠ "__name__" := by decide) (hd : (x == ("__debug__" : Str)) = false := by decide)
    (na : starEach [e] X.env = (false, eval e X.env) :: starEach [] X.env := by rfl) (hb : behindInMarks .IsNot (.Name x q) = false := by rfl) :
    ST X E C (.Compare (.Call (.Name "type" p) [e] [] pos2) [.IsNot] [.Name x q] pos) (tstD (tyD not T a)) := by
  obtain ⟨ta, pa, sa⟩ := ha
  refine ⟨_, pt_cmpR op_isNotTy (pe_callTy call_type1 hg hm (by decide +kernel) (pa_cons pa pa_nil na) (he := na)) (pe_bltn (v := .ty T) hgT hmT hv rfl hn hd) hb, sim_tst ?_⟩
  intro G0 H0 G H σ ρ Q I h
  refine sa.use famO I h fun r v G1 H1 e1 g1 I1 k1 h1 => ?_
  have k := k1.rp I1.s
  exact ⟨v, _, rfl, k.ty, _, T, rfl, rfl, h1 _ G1 H1 (Grow.refl I1.s) (.bl _)⟩
/-- isinstance(e, T), T a built-in class; not of the law's own argument -/
def isiF (T : String) (d : PD) : Option PD := match d with
  | .dict (_ :: _) => none
  | d => (kitB (tyP d) T).map PyData.bool
@[simp] def isiD (T : String) (a : ED) : ED := fun ρ => (a ρ).bind fun r => match isiF T r.dat with
  | some d => .ok (.im d)
  | none => .st
theorem Rp.tyx {K : PySem.W.Frag} {H : Hp} {x : V} {d : PD} (h : Rp K H x d) (n : ∀ p r, d ≠ .dict (p :: r)) : TyX K H x (.type (tyP d)) := by
  cases h with
  | non => exact .base .non
  | bl b => exact .base (.bl b)
  | int i => exact .base (.int i)
  | str x => exact .base (.str x)
  | lst h1 h2 => exact .base (.lst h1)
  | tup h1 h2 => exact .base (.tup h1)
  | emp h1 => exact .base (.dK h1)
  | scr ns h1 => exact absurd rfl (n _ _)
theorem se_isi {e : Expr} {x : Str} {T : String} {a : ED} {p q pos : Pos} (hg : Gl X "isinstance") (hm : X.mg "isinstance" = none) (hgT : Gl X x) (hmT : X.mg x = none) (hv : bootBuiltins x = some (.type T)) (ha : SE X E C e a) (hn : x ≠ "__name__" := by decide) (hd : (x == ("__debug__" : Str)) = false := by decide)
    (na : starEach [e, .Name x q] X.env = (false, eval e X.env) :: starEach [.Name x q] X.env := by rfl) (nb : starEach [.Name x q] X.env = (false, eval (.Name x q) X.env) :: starEach [] X.env := by rfl) (hpl : (backTo pos (starEach [.Name x q] X.env)).any (·.1) = false := by rfl) :
    SE X E C (.Call (.Name "isinstance" p) [e, .Name x q] [] pos) (isiD T a) := by
  obtain ⟨ta, pa, sa⟩ := ha
  refine ⟨_, pe_callB call_isi hg hm (by decide +kernel) (pa_cons pa (pa_cons (pe_bltn (v := .ty T) hgT hmT hv rfl hn hd) pa_nil nb) na) (he := na) (hpl := hpl), ?_⟩
  intro G0 H0 G H σ ρ Q I h
  refine sa.use famO I h fun r v G1 H1 e1 g1 I1 k1 h1 => ?_
  have k := k1.rp I1.s
  cases e : isiF T r.dat with
  | none => rw [e] at h1; exact h1.elim
  | some z =>
    rw [e] at h1
    unfold isiF at e
    split at e
    · cases e
    · rename_i d nd
      obtain ⟨b, e2, e3⟩ := Option.map_eq_some_iff.mp e
      subst e3
      exact ⟨v, .ty T, _, _, b, rfl, .ty T, k.tyx (fun p r q => nd p r q), kit_ty e2, h1 _ G1 H1 (Grow.refl I1.s) (.bl _)⟩
end
end Z

/-! ## Z6 -/
set_option Elab.async false
set_option linter.all false
set_option maxRecDepth 100000
set_option maxHeartbeats 2000000
namespace Z
open PySem PySem.Spec PyProof.Rows L2

/-! ### calls of the text's own defs -/
mutual
/-- no list and no dict in it -/
def lf : PD → Bool
  | .list _ => false
  | .dict _ => false
  | .tuple ds => lfs ds
  | _ => true
def lfs : List PD → Bool
  | [] => true
  | d :: ds => lf d && lfs ds
end
/-- with all tuples of the heap -/
def tupG (G H : Hp) : Hp := fun a => match H a with
  | some (.tup xs) => some (.tup xs)
  | _ => G a
section
variable {K : PySem.W.Frag} {G H G' H' : Hp}
theorem tupG_same (s : Same G H) : Same G (tupG G H) := fun a o e => by
  unfold tupG
  have h := s _ _ e
  rw [h]
  cases o <;> first | exact e | rfl
theorem tupG_heap (s : Same G H) : Same (tupG G H) H := fun a o e => by
  unfold tupG at e
  cases h : H a with
  | none => rw [h] at e; rw [s _ _ e] at h; cases h
  | some u =>
    rw [h] at e
    cases u with
    | tup xs => exact e
    | _ =>
      have q := s _ _ e
      rw [h] at q
      exact q
theorem tupG_none {a : Addr} {o : HO} (h : H a = some o) (m : Mut (some o)) (n : G a = none) : tupG G H a = none := by
  unfold tupG
  rw [h]
  cases o with
  | tup xs => exact m.elim
  | _ => exact n
mutual
theorem rp_tupG (s : Same G H) : ∀ (d : PD) (v : V), lf d = true → Rp K H v d → Rp K (tupG G H) v d
  | .none, _, _, h => by cases h; exact .non
  | .bool b, _, _, h => by cases h; exact .bl b
  | .int i, _, _, h => by cases h; exact .int i
  | .str x, _, _, h => by cases h; exact .str x
  | .list ds, _, l, _ => by simp [lf] at l
  | .tuple ds, _, l, h => by
    cases h with
    | tup h1 h2 =>
      refine .tup ?_ (rpA_tupG s ds _ (by simpa [lf] using l) h2)
      unfold tupG
      rw [h1]
  | .dict _, _, l, _ => by simp [lf] at l
theorem rpA_tupG (s : Same G H) : ∀ (ds : List PD) (vs : List V), lfs ds = true → RpA K H vs ds → RpA K (tupG G H) vs ds
  | [], _, _, h => by cases h; exact .nil
  | d :: ds, _, l, h => by
    cases h with
    | cons h1 h2 =>
      simp only [lfs, Bool.and_eq_true] at l
      exact .cons (rp_tupG s d _ l.1 h1) (rpA_tupG s ds _ l.2 h2)
end
end
def R.isIm : R → Bool
  | .im _ => true
  | _ => false
def Ty.lfv : (n : Nat) → Ty n → Bool
  | 0, d => lf d
  | n + 1, l => l.all (Ty.lfv n)
def R.flat : R → Bool
  | .im d => lf d
  | .ro _ _ => false
  | .fr n t => Ty.lfv (n + 1) t
theorem ATy.ok_lf {K : PySem.W.Frag} {G H G2 : Hp} (h2 : ∀ (d : PD) (v : V), lf d = true → Rp K G v d → Rp K G2 v d) : ∀ (n : Nat) (x : ATy n), Ty.lfv n (ATy.era n x) = true → ATy.ok K G H n x → ATy.ok K G2 H n x
  | 0, x, l, h => h2 _ _ l h
  | n + 1, x, l, h => ⟨h.1, fun y hy => by
    have l2 : ((x.2 : List (ATy n)).map (ATy.era n)).all (Ty.lfv n) = true := l
    rw [List.all_map, List.all_eq_true] at l2
    exact ATy.ok_lf h2 n y (l2 y hy) (h.2 y hy)⟩
@[simp] def callD (f : List PD → Out R) (a : AD) : ED := fun ρ => (a ρ).bind fun rs => match f (rs.map R.dat) with
  | .ok r => if rs.all R.isIm then .ok r else if r.flat then .ok r else .st
  | .ex c => .ex c
  | .st => .st
def SpF (K : PySem.W.Frag) (C : CM) (n : Nat) (f : List PD → Out R) : Sp := fun vs H Q E => ∃ G ds, Same G H ∧ RpA K G vs ds ∧ ds.length = n ∧ OOk K E C G H Q (f ds)
theorem ims_all : ∀ {rs : List R}, rs.all R.isIm = true → ims rs = some (rs.map R.dat)
  | [], _ => rfl
  | .im d :: rs, h => by
    have h2 : rs.all R.isIm = true := by simpa [R.isIm] using h
    show (ims rs).map (d :: ·) = _
    rw [ims_all h2]
    rfl
  | .ro _ _ :: _, h => by simp [R.isIm] at h
  | .fr _ _ :: _, h => by simp [R.isIm] at h
theorem sim_call {K : PySem.W.Frag} {E : XK} {C : CM} {n : Nat} {f : List PD → Out R} {ta : TA} {a : AD} (hn : ∀ ρ rs, a ρ = .ok rs → rs.length = n) (ha : SimA K E C ta a) : SimE K E C (tCall (SpF K C n f) [] E ta) (callD f a) := by
  intro G0 H0 G H σ ρ Q I h
  refine ha.use famO I h fun rs vs G1 H1 e1 g1 I1 k1 h1 => ?_
  rw [List.append_nil]
  have hl : (rs.map R.dat).length = n := by rw [List.length_map]; exact hn _ _ e1
  by_cases c : rs.all R.isIm = true
  · refine ⟨G1, rs.map R.dat, I1.s, k1.ims (ims_all c), hl, ?_⟩
    cases e : f (rs.map R.dat) with
    | ok r => simp only [e, if_pos c] at h1; exact h1
    | ex c => simp only [e] at h1; exact h1
    | st => simp only [e] at h1; exact h1
  · refine ⟨H1, rs.map R.dat, Same.refl _, k1.rp I1.s, hl, ?_⟩
    cases e : f (rs.map R.dat) with
    | ex c => simp only [e] at h1; exact fun G' H' g => h1 (tupG G1 H') H' ⟨tupG_same (I1.s.trans g.h), g.h, tupG_heap (I1.s.trans g.h), fun a o h2 h3 h4 => tupG_none (g.h _ _ h2) h3 h4⟩
    | st => simp only [e] at h1; exact h1
    | ok r =>
      simp only [e, if_neg c] at h1
      by_cases l : r.flat = true
      · rw [if_pos l] at h1
        intro v G' H' g hr
        have s' := I1.s.trans g.h
        refine h1 v (tupG G1 H') H' ⟨tupG_same s', g.h, tupG_heap s', fun a o h2 h3 h4 => tupG_none (g.h _ _ h2) h3 h4⟩ ?_
        have up : ∀ (d : PD) (v : V), lf d = true → Rp K G' v d → Rp K (tupG G1 H') v d := fun d v l h => rp_tupG s' d v l (h.up g.s)
        cases r with
        | im d => exact up d v l hr
        | ro n t => simp [R.flat] at l
        | fr n t =>
          obtain ⟨x, e1, e2, e3, e4, e5⟩ := hr
          subst e1
          refine ⟨x, rfl, e2, ATy.ok_lf up (n + 1) x l e3, e4, fun a ha => ⟨(e5 a ha).1, ?_⟩⟩
          obtain ⟨xs, hx⟩ := ATy.in_heap _ _ e3 a ha
          exact tupG_none hx trivial (I1.s.free (e5 a ha).1)
      · rw [if_neg l] at h1; exact h1.elim
/-- how many arguments there are -/
structure ALen (a : AD) (n : Nat) : Prop where
  l : ∀ ρ rs, a ρ = .ok rs → rs.length = n
theorem alen_nil : ALen nilA 0 := ⟨fun ρ rs h => by cases h; rfl⟩
theorem alen_cons {e : ED} {a : AD} {n : Nat} (h : ALen a n) : ALen (consA e a) (n + 1) := ⟨fun ρ rs q => by
  unfold consA at q
  cases e1 : e ρ with
  | ok r =>
    rw [e1] at q
    cases e2 : a ρ with
    | ok rs2 =>
      have q' : Out.ok (r.fz :: rs2) = Out.ok rs := by
        have := q
        simp only [Out.bind, e2] at this
        exact this
      cases q'
      simp [h.l ρ rs2 e2]
    | ex c => simp [Out.bind, e2] at q
    | st => simp [Out.bind, e2] at q
  | ex c => rw [e1] at q; simp [Out.bind] at q
  | st => rw [e1] at q; simp [Out.bind] at q⟩
section
variable {X : Cx} {E : XK} {C : CM}
theorem se_call {CX : CXT} {k n : Nat} {f : Addr} {fd : FuncData} {ps : List Str} {fn : List PD → Out R} {x : Str} {e : Expr} {es : List Expr} {a : AD} {p pos : Pos} (F : FnOk X.prog X.w X.K X.mg X.base CX k f fd ps (SpF X.K C n fn)) (hr : Room k X.A) (hx : Passes CX X E)
    (hm : X.mg x = some (.ref f)) (hk : PySem.W.keepIn X.K (.ref f) = true) (hb : Binds X.K fd ps []) (hl : ALen a n) (ha : SA X E C (e :: es) a) (hg : Gl X x := by rfl) (hdb : (x == ("__debug__" : Str)) = false := by decide) (he : starEach (e :: es) X.env = (false, eval e X.env) :: starEach es X.env := by rfl) (hpl : (backTo pos (starEach es X.env)).any (·.1) = false := by rfl) :
    SE X E C (.Call (.Name x p) (e :: es) [] pos) (callD fn a) := by
  obtain ⟨ta, pa, sa⟩ := ha
  exact ⟨_, pe_call F hr hg hm hk hb .nil hx pa hdb he hpl, sim_call hl.l sa⟩

/-! ### a def from its body -/
def denF (m n : Nat) (d : SD) : List PD → Out R := fun ds => match d (ds.map Ent.im ++ List.replicate (m - n) Ent.no) with
  | .nx _ => .ok (.im .none)
  | .rt r => .ok r
  | .rv r _ => .ok r
  | .ex c => .ex c
  | .ev c _ => .ex c
  | _ => .st
theorem start_ok {K : PySem.W.Frag} {G H : Hp} {N : List Str} {vs : List V} {ds : List PD} {n : Nat} (s : Same G H) (r : RpA K G vs ds) (hn : ds.length = n) (hN : n ≤ N.length) : EnvOk K G H G H (L2.start N vs) (ds.map Ent.im ++ List.replicate (N.length - n) Ent.no) := by
  have hl := r.length
  refine ⟨by simp [L2.start]; omega, Grow.refl s, fun _ => none, fun i e he => ?_⟩
  by_cases h : i < ds.length
  · rw [List.getElem?_append_left (by simpa using h)] at he
    rw [List.getElem?_map] at he
    cases q : ds[i]? with
    | none => rw [q] at he; cases he
    | some d =>
      rw [q] at he
      cases he
      obtain ⟨v, e1, e2⟩ := r.getD q
      refine ⟨v, ?_, e2⟩
      unfold L2.start
      rw [List.getD_eq_getElem?_getD, List.getElem?_append_left (by simpa [hl] using h), List.getElem?_map, e1]
      rfl
  · rw [List.getElem?_append_right (by simpa using h)] at he
    have e2 := List.mem_of_getElem? he
    rw [List.mem_replicate] at e2
    rw [e2.2]
    trivial
section
variable {P : Program} {w : World} {K : PySem.W.Frag} {mg : Str → Option Value} {base : Heap}
theorem fnOk_of {x qual : Str} {params : Arguments} {body : List Stmt} {scope : Scope} {f : Addr} {fd : FuncData} {N ps : List Str} {k n : Nat} {den : SD} (F : FunD K x qual params body scope [] [] f fd) (S : FnScope N ps scope) (hn : ps.length = n) (hN : n ≤ N.length)
    (hbody : ∀ (cdv : Value) (A : Around) (outer : List PySem.Env) (s : Shared) (H : Hp) (E : XK), Room k (A.deeper (envOfC qual scope s.heap.objs.size f cdv)) →
      SB (cxOf (L2N.CX P w) P w K mg base N qual scope f cdv A outer s H E) E C body den) :
    FnOk P w K mg base (L2N.CX P w) (k + 1) f fd ps (SpF K C n (denF N.length n den)) := by
  refine F.ok S (fun vs H Q E h => ?_) (fun cdv A outer s H vs Q E hr h => ?_)
  · obtain ⟨G, ds, s, r, l, _⟩ := h
    rw [r.length, l, hn]
  · obtain ⟨G, ds, sm, r, l, q⟩ := h
    obtain ⟨t, p, sim⟩ := hbody cdv A outer s H E hr
    refine ⟨t, p, sim G H G H _ _ _ (start_ok sm r l hN) ?_⟩
    unfold denF at q
    split at q
    · rename_i ρ e
      rw [e]
      exact fun σ G' H' _ I => q .non G' H' I.b .non
    · rename_i r e
      rw [e]
      exact fun v G' H' g hr => q v G' H' g hr
    · rename_i r ρ e
      rw [e]
      exact fun v σ G' H' s I hr => q v G' H' I.b hr
    · rename_i c e
      rw [e]
      exact fun G' H' g => q G' H' g
    · rename_i c ρ e
      rw [e]
      exact fun σ G' H' s I => q G' H' I.b
    · exact q.elim
/-- a def of the text that others call -/
structure Cal (P : Program) (w : World) (K : PySem.W.Frag) (mg : Str → Option Value) (base : Heap) (C : CM) (x : Str) (k n : Nat) (ps : List Str) (fn : List PD → Out R) : Prop where
  p : ∃ (f : Addr) (fd : FuncData), FnOk P w K mg base (L2N.CX P w) k f fd ps (SpF K C n fn) ∧ mg x = some (.ref f) ∧ PySem.W.keepIn K (.ref f) = true ∧ Binds K fd ps []
theorem FnOk.of_eq {CX : CXT} {k n : Nat} {f : Addr} {fd : FuncData} {ps : List Str} {fn fn' : List PD → Out R} (F : FnOk P w K mg base CX k f fd ps (SpF K C n fn)) (h : fn = fn') : FnOk P w K mg base CX k f fd ps (SpF K C n fn') := h ▸ F
end

theorem se_cal {k kk n : Nat} {ps : List Str} {fn : List PD → Out R} {x : Str} {e : Expr} {es : List Expr} {a : AD} {p pos : Pos} (G : Cal X.prog X.w X.K X.mg X.base C x k n ps fn) (hr : Room kk X.A) (hk : k ≤ kk) (hx : Passes (L2N.CX X.prog X.w) X E)
    (hl : ALen a n) (ha : SA X E C (e :: es) a) (hg : Gl X x := by rfl) (hdb : (x == ("__debug__" : Str)) = false := by decide) (he : starEach (e :: es) X.env = (false, eval e X.env) :: starEach es X.env := by rfl) (hpl : (backTo pos (starEach es X.env)).any (·.1) = false := by rfl) :
    SE X E C (.Call (.Name x p) (e :: es) [] pos) (callD fn a) := by
  obtain ⟨f, fd, F, hm, hkp, hb⟩ := G.p
  exact se_call F (hr.mono hk) hx hm hkp hb hl ha hg hdb he hpl
theorem room65 {k : Nat} {A : Around} (hr : Room k A) : A.units + 65 < cLine := by have := hr.un; omega
theorem room64 {k : Nat} {A : Around} (hr : Room k A) : A.units + 64 < cLine := by have := hr.un; omega
/-! ### statements -/
theorem sb_nil : SB X E C [] (fun ρ => .nx ρ) := ⟨_, pss_nil, fun G0 H0 G H σ ρ D I h => h σ G H (Same.refl _) I⟩
def seqD (a b : SD) : SD := fun ρ => match a ρ with
  | .nx ρ' => b ρ'
  | o => o
theorem sim_seq {K : PySem.W.Frag} {ta tb : TS} {a b : SD} (ha : SimS K E C ta a) (hb : SimS K E C tb b) : SimS K E C (tSeq ta tb) (seqD a b) := by
  intro G0 H0 G H σ ρ D I h
  refine ha G0 H0 G H σ ρ _ I ?_
  unfold seqD at h
  cases e : a ρ with
  | nx ρ' => rw [e] at h; exact fun σ' G' H' s' I' => hb G0 H0 G' H' σ' ρ' D I' (SOk.up h s')
  | rt r => rw [e] at h; exact h
  | rv r ρ' => rw [e] at h; exact h
  | ev r ρ' => rw [e] at h; exact h
  | bk r => rw [e] at h; exact h
  | ct r => rw [e] at h; exact h
  | ex r => rw [e] at h; exact h
  | st => rw [e] at h; exact h
theorem sb_cons {st : Stmt} {rest : List Stmt} {a b : SD} (ha : SS X E C st a) (hb : SB X E C rest b) : SB X E C (st :: rest) (seqD a b) := by
  obtain ⟨ta, pa, sa⟩ := ha
  obtain ⟨tb, pb, sb⟩ := hb
  exact ⟨_, pss_cons pa pb, sim_seq sa sb⟩
theorem sb_one {st : Stmt} {a : SD} (ha : SS X E C st a) : SB X E C [st] a := by
  obtain ⟨ta, pa, sa⟩ := ha
  exact ⟨_, pss_one pa, sa⟩
/-- the entry of a result -/
def entOf : R → Option Ent
  | .im d => some (.im d)
  | .fr n t => some (.ow n t)
  | .ro _ _ => none
theorem getD_set_ne {σ : L2.St} {i j : Nat} {o : Option V} (h : i ≠ j) : (σ.set i o).getD j none = σ.getD j none := by
  rw [List.getD_eq_getElem?_getD, List.getD_eq_getElem?_getD, List.getElem?_set_ne h]
theorem getD_set_self {σ : L2.St} {i : Nat} {o : Option V} (h : i < σ.length) : (σ.set i o).getD i none = o := by
  rw [List.getD_eq_getElem?_getD, List.getElem?_set_self h] <;> rfl
/-- a new entry at i: the others' lists are where they were -/
theorem EnvOk.put {K : PySem.W.Frag} {G0 H0 G H : Hp} {σ : L2.St} {ρ : Env} {i : Nat} {e : Ent} {o : Option V} (I : EnvOk K G0 H0 G H σ ρ)
    (he : ∀ w : Addr → Option Nat, (∀ (j : Nat) (e : Ent), ρ[j]? = some e → EntOk K H0 G H w j e (σ.getD j none)) → ∃ w', EntOk K H0 G H w' i e o ∧ ∀ (j : Nat) (e : Ent), j ≠ i → ρ[j]? = some e → EntOk K H0 G H w' j e (σ.getD j none)) : EnvOk K G0 H0 G H (σ.set i o) (ρ.set i e) := by
  obtain ⟨len, b, w, hw⟩ := I
  obtain ⟨w', h1, h2⟩ := he w hw
  refine ⟨by simp [len], b, w', fun j e' hj => ?_⟩
  by_cases c : i = j
  · subst c
    by_cases hi : i < ρ.length
    · rw [List.getElem?_set_self hi] at hj
      cases hj
      rw [getD_set_self (by omega)]
      exact h1
    · rw [List.getElem?_eq_none (by simp; omega)] at hj
      cases hj
  · rw [List.getElem?_set_ne c] at hj
    rw [getD_set_ne c]
    exact h2 j e' (Ne.symm c) hj
theorem EnvOk.setIm {K : PySem.W.Frag} {G0 H0 G H : Hp} {σ : L2.St} {ρ : Env} {d : PD} {v : V} (I : EnvOk K G0 H0 G H σ ρ) (i : Nat) (r : Rp K G v d) : EnvOk K G0 H0 G H (σ.set i (some v)) (ρ.set i (.im d)) :=
  I.put fun w hw => ⟨w, ⟨v, rfl, r⟩, fun j e _ h => hw j e h⟩
theorem EnvOk.setNo {K : PySem.W.Frag} {G0 H0 G H : Hp} {σ : L2.St} {ρ : Env} {o : Option V} (I : EnvOk K G0 H0 G H σ ρ) (i : Nat) : EnvOk K G0 H0 G H (σ.set i o) (ρ.set i .no) :=
  I.put fun w hw => ⟨w, trivial, fun j e _ h => hw j e h⟩
/-- a new owned list: it is new against an earlier heap in which the others' lists stood -/
theorem EnvOk.setFr {K : PySem.W.Frag} {G0 H0 G H G' H' : Hp} {σ : L2.St} {ρ : Env} {n : Nat} {t : Ty (n + 1)} {v : V} (I : EnvOk K G0 H0 G H σ ρ) (g : Grow G H G' H') (i : Nat) (r : ROk K H G' H' (.fr n t) v) : EnvOk K G0 H0 G' H' (σ.set i (some v)) (ρ.set i (.ow n t)) := by
  obtain ⟨x, e1, e2, e3, e4, e5⟩ := r
  obtain ⟨len, b, w0, hw0⟩ := I
  refine EnvOk.put (EnvOk.grow ⟨len, b, w0, hw0⟩ g) fun w hw => ?_
  refine ⟨fun a => if a ∈ ATy.adr (n + 1) x then some i else w0 a, ⟨x, by rw [e2], e1, e3, e4, fun a ha => ⟨if_pos ha, (e5 a ha).2, b.h.free (e5 a ha).1⟩⟩, fun j e hj he => ?_⟩
  have h := hw0 j e he
  have h' := h.grow g
  cases e with
  | no => trivial
  | im d => exact h'
  | vv v => exact h'
  | ob a C fs =>
    obtain ⟨z1, z2, z3, dx, vs, z4, z5⟩ := h'
    obtain ⟨_, _, _, _, _, y4, _⟩ := h
    refine ⟨z1, ?_, z3, dx, vs, z4, z5⟩
    show (if a ∈ ATy.adr (n + 1) x then some i else w0 a) = some j
    rw [if_neg]
    · exact z2
    · intro q
      have := (e5 a q).1
      rw [y4] at this
      cases this
  | ow m u =>
    obtain ⟨y, y1, y2, y3, y4, y5⟩ := h
    obtain ⟨y', z1, z2, z3, z4, z5⟩ := h'
    refine ⟨y, y1, y2, ATy.ok_mono g.g g.h _ _ y3, y4, fun a ha => ⟨?_, g.m a _ (ATy.in_heap _ _ y3 a ha).choose_spec trivial (y5 a ha).2.1, (y5 a ha).2.2⟩⟩
    show (if a ∈ ATy.adr (n + 1) x then some i else w0 a) = some j
    rw [if_neg]
    · exact (y5 a ha).1
    · intro q
      obtain ⟨xs, hx⟩ := ATy.in_heap _ _ y3 a ha
      rw [(e5 a q).1] at hx
      cases hx
def bindS (o : Out R) (k : R → SO) : SO := match o with
  | .ok r => k r
  | .ex c => .ex c
  | .st => .st
/-- an expression, then what a statement does with it -/
theorem SimE.useS {K : PySem.W.Frag} {G0 H0 G H : Hp} {σ : L2.St} {ρ : Env} {D : Ends} {te : TE} {e : ED} {k : R → SO} (he : SimE K E C te e) (I : EnvOk K G0 H0 G H σ ρ) (h : SOk K E C G0 H0 G D (bindS (e ρ) k)) {Q : VK}
    (kk : ∀ r v G' H', e ρ = .ok r → Grow G H G' H' → EnvOk K G0 H0 G' H' σ ρ → ROk K H G' H' r v → SOk K E C G0 H0 G' D (k r) → Q v H') : te σ H Q := by
  refine he G0 H0 G H σ ρ Q I ?_
  cases e1 : e ρ with
  | ok r => rw [e1] at h; exact fun v G' H' g hr => kk r v G' H' e1 g (I.grow g) hr (SOk.up h g.g)
  | ex c => rw [e1] at h; exact fun G' H' g => h G' H' (I.b.trans g)
  | st => rw [e1] at h; exact h
theorem SimE.useSF {K : PySem.W.Frag} {G0 H0 G H : Hp} {σ : L2.St} {ρ : Env} {D : Ends} {te : TE} {e : ED} {k : R → SO} (he : SimE K E C te e) (I : EnvOk K G0 H0 G H σ ρ) (h : SOk K E C G0 H0 G D (bindS (e ρ) k)) {Q : VK}
    (kk : ∀ r v G' H', e ρ = .ok r → Grow G H G' H' → EnvOk K G0 H0 G' H' σ ρ → ROk K hpE G' H' r.fz v → SOk K E C G0 H0 G' D (k r) → Q v H') : te σ H Q := by
  refine he.useS I h fun r v G' H' e1 g I' hr h' => ?_
  cases r with
  | im d => exact kk _ v G' H' e1 g I' hr h'
  | ro n t => exact kk _ v G' H' e1 g I' hr h'
  | fr n t =>
    obtain ⟨G2, s2, g2, r2⟩ := hr.freeze g.s g
    exact kk _ v G2 H' e1 g2 (I.grow g2) r2 (SOk.up h' s2)
theorem SimT.useS {K : PySem.W.Frag} {G0 H0 G H : Hp} {σ : L2.St} {ρ : Env} {D : Ends} {te : TT} {e : TD} {k : Bool → SO} (he : SimT K E C te e) (I : EnvOk K G0 H0 G H σ ρ) (h : SOk K E C G0 H0 G D (match e ρ with
    | .ok b => k b
    | .ex c => .ex c
    | .st => .st)) {Q : Bool → Hp → Prop}
    (kk : ∀ b G' H', e ρ = .ok b → Grow G H G' H' → EnvOk K G0 H0 G' H' σ ρ → SOk K E C G0 H0 G' D (k b) → Q b H') : te σ H Q := by
  refine he G0 H0 G H σ ρ Q I ?_
  cases e1 : e ρ with
  | ok r => rw [e1] at h; exact fun G' H' g => kk r G' H' e1 g (I.grow g) (SOk.up h g.g)
  | ex c => rw [e1] at h; exact fun G' H' g => h G' H' (I.b.trans g)
  | st => rw [e1] at h; exact h
def asgD (i : Nat) (e : ED) : SD := fun ρ => bindS (e ρ) fun r => match entOf r with
  | some n => .nx (ρ.set i n)
  | none => .st
theorem sim_asg {K : PySem.W.Frag} {te : TE} {e : ED} (i : Nat) (he : SimE K E C te e) : SimS K E C (tAsg te (gName i)) (asgD i e) := by
  intro G0 H0 G H σ ρ D I h
  refine he.useS I h fun r v G' H' e1 g I' hr h' => ?_
  cases r with
  | im d => exact h' _ G' H' (Same.refl _) (I'.setIm i hr)
  | ro n t => exact h'.elim
  | fr n t => exact h' _ G' H' (Same.refl _) (I.setFr g i hr)
theorem ss_asg {x : Str} {e : Expr} {d : ED} {pos' pos : Pos} (i : Nat) (hN : X.N.Nodup) (hx : Loc X.env.scope x) (he : SE X E C e d) (hi : X.N[i]? = some x := by rfl) (hs : swapsWith e (some (.Name x pos')) pos.line X.env = pure false := by rfl) (hf : X.fn x = true ∨ X.env.scope.names.lookup x = some .local := by first | exact .inl rfl | exact .inr rfl | assumption) :
    SS X E C (.Assign [.Name x pos'] e pos) (asgD i d) := by
  obtain ⟨te, pe, se⟩ := he
  exact ⟨_, ps_set hN hi hx pe hs hf, sim_asg i se⟩
def exprD (e : ED) : SD := fun ρ => bindS (e ρ) fun _ => .nx ρ
theorem ss_expr {e : Expr} {d : ED} {pos : Pos} (he : SE X E C e d) (hs : swapsWith e none pos.line X.env = pure false := by rfl) : SS X E C (.Expr e pos) (exprD d) := by
  obtain ⟨te, pe, se⟩ := he
  refine ⟨_, ps_expr pe hs, fun G0 H0 G H σ ρ D I h => ?_⟩
  exact se.useS I h fun r v G' H' e1 g I' hr h' => h' σ G' H' (Same.refl _) I'
@[simp] def retD (e : ED) : SD := fun ρ => bindS (e ρ) fun r => match r with
  | .ro _ _ => .st
  | r => .rt r
theorem ss_ret {e : Expr} {d : ED} {pos : Pos} (he : SE X E C e d) : SS X E C (.Return (some e) pos) (retD d) := by
  obtain ⟨te, pe, se⟩ := he
  refine ⟨_, ps_ret pe, fun G0 H0 G H σ ρ D I h => ?_⟩
  refine se.useS I h fun r v G' H' e1 g I' hr h' => ?_
  cases r with
  | im d => exact h' v G' H' I'.b hr
  | ro n t => exact h'.elim
  | fr n t => exact h' v G' H' I'.b (hr.base I.b.h)
/-- return x, x an owned list: it is handed over -/
def retVD (i : Nat) : SD := fun ρ => match ρ[i]? with
  | some (.im d) => .rt (.im d)
  | some (.ow n t) => .rt (.fr n t)
  | _ => .st
theorem ss_retV (i : Nat) {x : Str} {p pos : Pos} (hN : X.N[i]? = some x := by rfl) (hv : Vis X.env.scope x := by first | exact Or.inl rfl | exact Or.inr (Or.inl rfl) | exact Or.inr (Or.inr rfl)) (hd : (x == ("__debug__" : Str)) = false := by decide)
    (hcd : (x == ("__classdict__" : Str)) = false := by decide) : SS X E C (.Return (some (.Name x p)) pos) (retVD i) := by
  refine ⟨_, ps_ret (pe_var hN hv hd hcd), fun G0 H0 G H σ ρ D I h => ?_⟩
  obtain ⟨len, b, w, he⟩ := I
  unfold retVD at h
  cases e : ρ[i]? with
  | none => rw [e] at h; exact h.elim
  | some x =>
    rw [e] at h
    have q := he i x e
    cases x with
    | no => exact h.elim
    | im d =>
      obtain ⟨v, ev, r⟩ := q
      exact ⟨v, getD_some ev, h v G H b r⟩
    | ow n t =>
      obtain ⟨y, ev, e2, e3, e4, e5⟩ := q
      exact ⟨_, getD_some ev, h _ G H b ⟨y, e2, rfl, e3, e4, fun a ha => ⟨(e5 a ha).2.2, (e5 a ha).2.1⟩⟩⟩
    | vv v => exact h.elim
    | ob a C fs => exact h.elim
theorem ss_retN {pos : Pos} : SS X E C (.Return none pos) (fun _ => .rt (.im .none)) := ⟨_, ps_retN, fun G0 H0 G H σ ρ D I h => h .non G H I.b .non⟩
def ifD (t : TD) (a b : SD) : SD := fun ρ => match t ρ with
  | .ok c => if c = true then a ρ else b ρ
  | .ex c => .ex c
  | .st => .st
theorem ss_if {c : Expr} {sa sb : List Stmt} {t : TD} {a b : SD} {pos : Pos} (hc : ST X E C c t) (ha : SB X E C sa a) (hb : SB X E C sb b) : SS X E C (.If c sa sb pos) (ifD t a b) := by
  obtain ⟨tc, pc, sc⟩ := hc
  obtain ⟨ta, pa, sa⟩ := ha
  obtain ⟨tb, pb, sb⟩ := hb
  refine ⟨_, ps_if pc pa pb, fun G0 H0 G H σ ρ D I h => ?_⟩
  refine sc.useS (k := fun c => if c = true then a ρ else b ρ) I h fun c G' H' e1 g I' h' => ?_
  cases c with
  | true => exact sa G0 H0 G' H' σ ρ D I' h'
  | false => exact sb G0 H0 G' H' σ ρ D I' h'
theorem ss_pass {pos : Pos} : SS X E C (.Pass pos) (fun ρ => .nx ρ) := ⟨_, ps_pass, fun G0 H0 G H σ ρ D I h => h σ G H (Same.refl _) I⟩
theorem ss_break {pos : Pos} : SS X E C (.Break pos) (fun ρ => .bk ρ) := ⟨_, ps_break, fun G0 H0 G H σ ρ D I h => h σ G H (Same.refl _) I⟩
theorem ss_cont {pos : Pos} : SS X E C (.Continue pos) (fun ρ => .ct ρ) := ⟨_, ps_continue, fun G0 H0 G H σ ρ D I h => h σ G H (Same.refl _) I⟩
/-- raise X('..') -/
theorem ss_raise {x m : Str} {c : String} {CE : Addr} {j : Nat} {p p2 pos pos2 : Pos} {bmB : List Value} {B newId initId : String} (hc : X.calm = true) (tk : L2N.Takes X (fun cls d _ H => E cls d H)) (hC : C c = .ref CE)
    (F : ExcBaseFacts B newId initId bmB) (q : PySem.W.excIn X.K CE bmB newId = true) (gC : X.mg x = some (.ref CE)) (kC : PySem.W.keepIn X.K (.ref CE) = true) (r : Raises X (.ref CE)) (hg : Gl X x) (hdb : (x == ("__debug__" : Str)) = false := by decide) :
    SS X E C (.Raise (some (.Call (.Name x p) [.Constant (.str m) j p2] [] pos)) none pos2) (fun _ => .ex c) := by
  refine ⟨_, L2N.ps_raise hc tk (L2N.pmk_own F q gC kC r hg hdb), fun G0 H0 G H σ ρ D I h => ?_⟩
  have h' := h G H I.b
  rw [hC] at h'
  exact h'
/-- what was told of an owned list from here on: it is known for ever -/
@[simp] def frzD (i : Nat) : SD := fun ρ => match ρ[i]? with
  | some (.ow n t) => .nx (ρ.set i (.im (Ty.dat (n + 1) t)))
  | _ => .nx ρ
theorem EnvOk.freeze {K : PySem.W.Frag} {G0 H0 G H : Hp} {σ : L2.St} {ρ : Env} {i n : Nat} {t : Ty (n + 1)} (I : EnvOk K G0 H0 G H σ ρ) (hi : ρ[i]? = some (.ow n t)) : ∃ G', Same G G' ∧ EnvOk K G0 H0 G' H σ (ρ.set i (.im (Ty.dat (n + 1) t))) := by
  obtain ⟨len, b, w, hw⟩ := I
  obtain ⟨x, x1, x2, x3, x4, x5⟩ := hw i _ hi
  have hs : Same G (know G H (ATy.adr (n + 1) x)) := know_same b.s fun a ha => (x5 a ha).2.1
  refine ⟨know G H (ATy.adr (n + 1) x), hs, by simp [len], ⟨b.g.trans hs, b.h, know_heap b.s, fun a o h1 h2 h3 => ?_⟩, w, fun j e he => ?_⟩
  · by_cases h : a ∈ ATy.adr (n + 1) x
    · rw [(x5 a h).2.2] at h1; cases h1
    · rw [know_out h]; exact b.m a o h1 h2 h3
  · by_cases c : i = j
    · subst c
      have hl : i < ρ.length := (List.getElem?_eq_some_iff.mp hi).1
      rw [List.getElem?_set_self hl] at he
      cases he
      refine ⟨_, x1, ?_⟩
      rw [← x2]
      exact ATy.known (n + 1) x (fun a ha => know_in ha) hs x3
    · rw [List.getElem?_set_ne c] at he
      have h := hw j e he
      cases e with
      | no => trivial
      | im d => obtain ⟨v, e1, e2⟩ := h; exact ⟨v, e1, e2.up hs⟩
      | vv v => exact h
      | ob a C fs =>
        obtain ⟨z1, z2, z3, dx, vs, z4, z5⟩ := h
        refine ⟨z1, z2, ⟨?_, z3.2⟩, dx, vs, z4, z5.up hs⟩
        rw [know_out]
        · exact z3.1
        · intro q
          have e1 := (x5 a q).1
          rw [z2] at e1
          exact c (Option.some.inj e1).symm
      | ow m u =>
        obtain ⟨y, y1, y2, y3, y4, y5⟩ := h
        refine ⟨y, y1, y2, ATy.ok_mono hs (Same.refl _) _ _ y3, y4, fun a ha => ⟨(y5 a ha).1, ?_, (y5 a ha).2.2⟩⟩
        rw [know_out]
        · exact (y5 a ha).2.1
        · intro q
          have e1 := (x5 a q).1
          rw [(y5 a ha).1] at e1
          exact c (Option.some.inj e1).symm
/-- ahead of a block -/
theorem sb_frz {b : List Stmt} {d : SD} (i : Nat) (hb : SB X E C b d) : SB X E C b (seqD (frzD i) d) := by
  obtain ⟨tb, pb, sb⟩ := hb
  refine ⟨_, pb, fun G0 H0 G H σ ρ D I h => ?_⟩
  unfold seqD frzD at h
  split at h
  · rename_i ρ' e
    split at e
    · rename_i n t q
      cases e
      obtain ⟨G', s', I'⟩ := I.freeze q
      exact sb G0 H0 G' H σ _ D I' (SOk.up h s')
    · cases e
      exact sb G0 H0 G H σ _ D I h
  · rename_i o e
    split at e
    · exact absurd rfl (e _)
    · exact absurd rfl (e _)
end
end Z

/-! ## Z7 -/
set_option Elab.async false
set_option linter.all false
set_option maxRecDepth 100000
set_option maxHeartbeats 2000000
namespace Z
open PySem PySem.Spec PyProof.Rows L2

/-! ### what is walked -/
def YOk (K : PySem.W.Frag) (G H H' : Hp) (v : V) (d : PD) : Prop := ∀ G', Same G G' → Same G' H → ∃ G'', Grow G' H G'' H' ∧ Rp K G'' v d
def Walks (K : PySem.W.Frag) (J : It) (G : Hp) (ds : List PD) (S : Hp → Prop) : Prop := ∀ i H, S H →
  (ds.length ≤ i → J.stop i H) ∧ ∀ d, ds[i]? = some d → J.go i H ∧ ∀ v H', J.yld i H v H' → YOk K G H H' v d
abbrev LD := Env → Out (List PD)
/-- for a for: the things are known for ever -/
structure SI (X : Cx) (E : XK) (C : CM) (tg e : Expr) (s : LD) : Prop where
  p : ∃ wi, PI X tg e wi ∧ ∀ G0 H0 G H σ ρ (Q : It → Hp → Prop), EnvOk X.K G0 H0 G H σ ρ → (match s ρ with
    | .ok ds => ∀ J G' H', Grow G H G' H' → Walks X.K J G' ds (fun H2 => Same G' H2) → Q J H'
    | .ex c => ∀ G' H', Grow G H G' H' → E (C c) none H'
    | .st => False) → wi σ H Q
/-- for a comprehension: the heap only grows -/
structure SJ (X : Cx) (E : XK) (C : CM) (tg e : Expr) (s : LD) : Prop where
  p : ∃ wi, PI X tg e wi ∧ ∀ G0 H0 G H σ ρ (Q : It → Hp → Prop), EnvOk X.K G0 H0 G H σ ρ → (match s ρ with
    | .ok ds => ∀ J G' H', Grow G H G' H' → Walks X.K J G' ds (fun H2 => Same H' H2) → Q J H'
    | .ex c => ∀ G' H', Grow G H G' H' → E (C c) none H'
    | .st => False) → wi σ H Q
def ItOk (K : PySem.W.Frag) (E : XK) (C : CM) (S : Hp → Hp → Hp → Prop) (Q : It → Hp → Prop) (G H : Hp) : Out (List PD) → Prop
  | .ok ds => ∀ J G' H', Grow G H G' H' → Walks K J G' ds (S G' H') → Q J H'
  | .ex c => ∀ G' H', Grow G H G' H' → E (C c) none H'
  | .st => False
theorem famI {K : PySem.W.Frag} {E : XK} {C : CM} {S : Hp → Hp → Hp → Prop} {Q : It → Hp → Prop} : Fam E C (ItOk K E C S Q) := ⟨fun {G H G' H' o} h g => by
  cases o with
  | ok r => exact fun J G2 H2 g2 => h J G2 H2 (g.trans g2)
  | ex c => exact fun G2 H2 g2 => h G2 H2 (g.trans g2)
  | st => exact h, fun h => h, fun h => h⟩
@[simp] def itD (e : ED) : LD := fun ρ => (e ρ).bind fun r => match r.fz with
  | .im (.list ds) => .ok ds
  | .im (.dict [(.none, .list ds)]) => .ok ds
  | _ => .st
/-- also of an owned list -/
@[simp] def itJ (e : ED) : LD := fun ρ => (e ρ).bind fun r => match kidsS r.fz with
  | some ds => .ok ds
  | none => .st
theorem walks_list {K : PySem.W.Frag} {G : Hp} {a : Addr} {vs : List V} {ds : List PD} {S : Hp → Prop} (hS : ∀ H, S H → SqL K H a vs ∧ Same G H) (r : RpA K G vs ds) : Walks K (Itl K a) G ds S := by
  intro i H hs
  obtain ⟨h1, s⟩ := hS H hs
  refine ⟨fun hi => ⟨vs, h1, by rw [r.length]; exact hi⟩, fun d hd => ?_⟩
  obtain ⟨v, hv, rv⟩ := r.getD hd
  refine ⟨⟨vs, v, h1, hv⟩, fun v' H' hy => ?_⟩
  obtain ⟨rfl, hy⟩ := hy
  have e : vs[i]? = some v' := hy vs h1
  rw [hv] at e
  cases e
  exact fun G' s1 s2 => ⟨G', Grow.refl s2, rv.up s1⟩
section
variable {X : Cx} {E : XK} {C : CM}
theorem si_list {tg e : Expr} {d : ED} (he : SE X E C e d) : SI X E C tg e (itD d) := by
  obtain ⟨te, pe, se⟩ := he
  refine ⟨_, pi_list pe, fun G0 H0 G H σ ρ Q I h => ?_⟩
  refine se.useF (P := ItOk X.K E C (fun G' _ H2 => Same G' H2) Q) famI I h fun r x G1 H1 e1 g1 I1 k1 h1 => ?_
  split at h1
  · rename_i ds q
    rw [q] at k1
    cases k1 with
    | lst h2 h3 => exact ⟨_, rfl, ⟨_, SqL.of (I1.s _ _ h2)⟩, h1 _ G1 H1 (Grow.refl I1.s) (walks_list (fun H hs => ⟨SqL.of (hs _ _ h2), hs⟩) h3)⟩
  · rename_i ds q
    rw [q] at k1
    cases k1 with
    | scr ns h2 => exact ⟨_, rfl, ⟨_, I1.s.seq h2⟩, h1 _ G1 H1 (Grow.refl I1.s) (walks_list (fun H hs => ⟨hs.seq h2, hs⟩) (rpA_ints ns))⟩
  · exact h1.elim
theorem sj_list {tg e : Expr} {d : ED} (he : SE X E C e d) : SJ X E C tg e (itJ d) := by
  obtain ⟨te, pe, se⟩ := he
  refine ⟨_, pi_list pe, fun G0 H0 G H σ ρ Q I h => ?_⟩
  refine se.useF (P := ItOk X.K E C (fun _ H' H2 => Same H' H2) Q) famI I h fun r x G1 H1 e1 g1 I1 k1 h1 => ?_
  split at h1
  · rename_i ds q
    obtain ⟨a, vs, rfl, h2, h3⟩ := k1.kidsS I1.s q
    exact ⟨_, rfl, ⟨_, h2⟩, h1 _ G1 H1 (Grow.refl I1.s) (walks_list (fun H hs => ⟨hs.seq h2, I1.s.trans hs⟩) h3)⟩
  · exact h1.elim
theorem SI.j {tg e : Expr} {s : LD} (h : SI X E C tg e s) : SJ X E C tg e s := by
  obtain ⟨wi, p, q⟩ := h
  refine ⟨wi, p, fun G0 H0 G H σ ρ Q I h => q G0 H0 G H σ ρ Q I ?_⟩
  cases e : s ρ with
  | ok ds => rw [e] at h; exact fun J G' H' g w => h J G' H' g fun i H2 s2 => w i H2 (g.s.trans s2)
  | ex c => rw [e] at h; exact h
  | st => rw [e] at h; exact h
/-- range(n), range(a, b) -/
@[simp] noncomputable def rg1D (e : ED) : LD := fun ρ => (e ρ).bind fun r => match r.dat with
  | .int n => @ite _ (-100000 ≤ n ∧ n ≤ 100000) (Classical.propDecidable _) (.ok ((rangeL 0 n).map PyData.int)) .st
  | _ => .st
@[simp] noncomputable def rg2D (e f : ED) : LD := fun ρ => (e ρ).bind fun r => (f ρ).bind fun r2 => match r.dat, r2.dat with
  | .int a, .int n => @ite _ ((-100000 ≤ a ∧ a ≤ 100000) ∧ (-100000 ≤ n ∧ n ≤ 100000)) (Classical.propDecidable _) (.ok ((rangeL a n).map PyData.int)) .st
  | _, _ => .st
theorem walks_rng {K : PySem.W.Frag} {G : Hp} {a b : Int} {S : Hp → Prop} : Walks K (Itr a (b - a).toNat) G ((rangeL a b).map PyData.int) S := by
  intro i H hs
  have hl : ((rangeL a b).map PyData.int).length = (b - a).toNat := by simp [rangeL]
  refine ⟨fun hi => by rw [hl] at hi; exact hi, fun d hd => ?_⟩
  obtain ⟨h1, h2⟩ := List.getElem?_eq_some_iff.mp hd
  rw [hl] at h1
  refine ⟨h1, fun v H' hy => ?_⟩
  obtain ⟨rfl, rfl⟩ := hy
  have e : d = .int (a + (i : Nat)) := by rw [← h2]; simp [rangeL]
  rw [e]
  exact fun G' s1 s2 => ⟨G', Grow.refl s2, .int _⟩
theorem si_rg1 {tg e : Expr} {d : ED} {p pos : Pos} (hg : Gl X "range") (hm : X.mg "range" = none) (he : SE X E C e d) (hs : starEach [e] X.env = [(false, eval e X.env)] := by rfl) : SI X E C tg (.Call (.Name "range" p) [e] [] pos) (rg1D d) := by
  obtain ⟨te, pe, se⟩ := he
  refine ⟨_, pi_range1 hg hm (pa_cons pe pa_nil hs) hs, fun G0 H0 G H σ ρ Q I h => ?_⟩
  refine se.use (P := ItOk X.K E C (fun G' _ H2 => Same G' H2) Q) famI I h fun r x G1 H1 e1 g1 I1 k1 h1 => ?_
  have k := k1.rp I1.s
  split at h1
  · rename_i n q
    rw [q] at k
    cases k
    split at h1
    · rename_i c
      refine ⟨n, rfl, by omega, by omega, ?_⟩
      have e : n.toNat = (n - 0).toNat := by simp
      rw [e]
      exact h1 _ G1 H1 (Grow.refl I1.s) walks_rng
    · exact h1.elim
  · exact h1.elim
theorem si_rg2 {tg e f : Expr} {d d2 : ED} {p pos : Pos} (hg : Gl X "range") (hm : X.mg "range" = none) (he : SE X E C e d) (hf : SE X E C f d2) (hs : starEach [e, f] X.env = [(false, eval e X.env), (false, eval f X.env)] := by rfl) (hs2 : starEach [f] X.env = [(false, eval f X.env)] := by rfl) : SI X E C tg (.Call (.Name "range" p) [e, f] [] pos) (rg2D d d2) := by
  obtain ⟨te, pe, se⟩ := he
  obtain ⟨tf, pf, sf⟩ := hf
  refine ⟨_, pi_range2 hg hm (pa_cons pe (pa_cons pf pa_nil hs2) (by rw [hs, hs2])) hs hs2, fun G0 H0 G H σ ρ Q I h => ?_⟩
  refine se.use (P := ItOk X.K E C (fun G' _ H2 => Same G' H2) Q) famI I h fun r x G1 H1 e1 g1 I1 k1 h1 => ?_
  refine sf.use (P := ItOk X.K E C (fun G' _ H2 => Same G' H2) Q) famI I1 h1 fun r2 x2 G2 H2 e2 g2 I2 k2 h2 => ?_
  have k := (k1.rp I1.s).up g2.h
  have k' := k2.rp I2.s
  split at h2
  · rename_i a n q q2
    rw [q] at k
    rw [q2] at k'
    cases k
    cases k'
    split at h2
    · rename_i c
      exact ⟨a, n, rfl, ⟨by omega, by omega, by omega, by omega⟩, h2 _ G2 H2 (Grow.refl I2.s) walks_rng⟩
    · exact h2.elim
  · exact h2.elim
/-- enumerate(xs) -/
def enumP (ds : List PD) : List PD := (ds.zipIdx).map fun p => .tuple [.int (p.2 : Nat), p.1]
def enD (e : ED) : LD := fun ρ => (itD e ρ).bind fun ds => .ok (enumP ds)
theorem enumP_get {ds : List PD} {i : Nat} {d : PD} (h : (enumP ds)[i]? = some d) : ∃ x, ds[i]? = some x ∧ d = .tuple [.int (i : Nat), x] := by
  unfold enumP at h
  rw [List.getElem?_map, List.getElem?_zipIdx] at h
  cases e : ds[i]? with
  | none => rw [e] at h; cases h
  | some x => rw [e] at h; simp at h; exact ⟨x, rfl, h.symm⟩
theorem walks_enum {K : PySem.W.Frag} {G : Hp} {a : Addr} {vs : List V} {ds : List PD} {S : Hp → Prop} (hS : ∀ H, S H → SqL K H a vs ∧ Same G H) (r : RpA K G vs ds) : Walks K (Ite K a) G (enumP ds) S := by
  intro i H hs
  obtain ⟨h1, s⟩ := hS H hs
  have hl : (enumP ds).length = ds.length := by simp [enumP]
  refine ⟨fun hi => ⟨vs, h1, by rw [r.length, ← hl]; exact hi⟩, fun d hd => ?_⟩
  obtain ⟨x, hx, rfl⟩ := enumP_get hd
  obtain ⟨v, hv, rv⟩ := r.getD hx
  refine ⟨⟨vs, v, h1, hv⟩, fun v' H' hy => ?_⟩
  obtain ⟨T, y, rfl, hT, rfl, f⟩ := hy
  have e : vs[i]? = some y := f vs h1
  rw [hv] at e
  cases e
  exact fun G' s1 s2 => ⟨_, Grow.newK s2 hT, .tup upd_same (.cons (.int _) (.cons ((rv.up s1).up (same_upd (s2.free hT))) .nil))⟩
theorem si_enum {e : Expr} {d : ED} {p pos tpos : Pos} {elts : List Expr} {kk : Nat} (hg : Gl X "enumerate") (hm : X.mg "enumerate" = none) (he : SE X E C e d) (hs : starEach [e] X.env = [(false, eval e X.env)] := by rfl) : SI X E C (.Tuple elts kk tpos) (.Call (.Name "enumerate" p) [e] [] pos) (enD d) := by
  obtain ⟨te, pe, se⟩ := he
  refine ⟨_, pi_enum hg hm (pa_cons pe pa_nil hs) hs, fun G0 H0 G H σ ρ Q I h => ?_⟩
  have h' : ItOk X.K E C (fun G' _ H2 => Same G' H2) Q G H ((d ρ).bind fun r => (match r.fz with
    | .im (.list ds) => .ok (enumP ds)
    | .im (.dict [(.none, .list ds)]) => .ok (enumP ds)
    | _ => .st : Out (List PD))) := by
    have e2 : enD d ρ = ((d ρ).bind fun r => (match r.fz with
      | .im (.list ds) => .ok (enumP ds)
      | .im (.dict [(.none, .list ds)]) => .ok (enumP ds)
      | _ => .st : Out (List PD))) := by
      unfold enD itD
      cases d ρ with
      | ok r =>
        show Out.bind (match r.fz with
          | .im (.list ds) => .ok ds
          | .im (.dict [(.none, .list ds)]) => .ok ds
          | _ => .st) _ = (match r.fz with
          | .im (.list ds) => .ok (enumP ds)
          | .im (.dict [(.none, .list ds)]) => .ok (enumP ds)
          | _ => .st)
        split <;> rfl
      | ex c => rfl
      | st => rfl
    rw [← e2]
    exact h
  refine se.useF (P := ItOk X.K E C (fun G' _ H2 => Same G' H2) Q) famI I h' fun r x G1 H1 e1 g1 I1 k1 h1 => ?_
  split at h1
  · rename_i ds q
    rw [q] at k1
    cases k1 with
    | lst h2 h3 => exact ⟨_, _, rfl, SqL.of (I1.s _ _ h2), h1 _ G1 H1 (Grow.refl I1.s) (walks_enum (fun H hs => ⟨SqL.of (hs _ _ h2), hs⟩) h3)⟩
  · rename_i ds q
    rw [q] at k1
    cases k1 with
    | scr ns h2 => exact ⟨_, _, rfl, I1.s.seq h2, h1 _ G1 H1 (Grow.refl I1.s) (walks_enum (fun H hs => ⟨hs.seq h2, hs⟩) (rpA_ints ns))⟩
  · exact h1.elim

/-! ### targets -/
abbrev BD := PD → Env → Option Env
inductive Tg where
  | nm (i : Nat)
  | tp (is : List Nat)
def gsOf : List Nat → TGs
  | [] => gNil
  | i :: is => gCons (gName i) (gsOf is)
def tgOf (K : PySem.W.Frag) : Tg → TG
  | .nm i => gName i
  | .tp is => gTup K is.length (gsOf is)
def setAll (ρ : Env) (ps : List (Nat × PD)) : Env := ps.foldl (fun ρ p => ρ.set p.1 (.im p.2)) ρ
def bindT : Tg → BD
  | .nm i, d, ρ => some (ρ.set i (.im d))
  | .tp is, d, ρ => match d with
    | .tuple ds => if ds.length = is.length then some (setAll ρ (is.zip ds)) else none
    | _ => none
def slotsT : Tg → List Nat
  | .nm i => [i]
  | .tp is => is
@[simp] def wipeE (ρ : Env) : List Nat → Env
  | [] => ρ
  | v :: vs => (wipeE ρ vs).set v .no
theorem wipe_set {σ : L2.St} {i : Nat} {o : Option V} : ∀ {vs : List Nat}, i ∈ vs → wipe (σ.set i o) vs = wipe σ vs
  | [], h => nomatch h
  | v :: vs, h => by
    have key : ∀ (vs : List Nat) (σ : L2.St) (o : Option V) (i : Nat), i ∉ vs → wipe (σ.set i o) vs = (wipe σ vs).set i o := by
      intro vs
      induction vs with
      | nil => intro σ o i _; rfl
      | cons u us ih =>
        intro σ o i hn
        simp only [List.mem_cons, not_or] at hn
        show (wipe (σ.set i o) us).set u none = ((wipe σ us).set u none).set i o
        rw [ih σ o i hn.2, List.set_comm]
        exact fun e => hn.1 e
    by_cases hm : i ∈ vs
    · show (wipe (σ.set i o) vs).set v none = (wipe σ vs).set v none
      rw [wipe_set hm]
    · have e : i = v := by
        rcases List.mem_cons.mp h with e | e
        · exact e
        · exact absurd e hm
      subst e
      show (wipe (σ.set i o) vs).set i none = (wipe σ vs).set i none
      rw [key vs σ o i hm, List.set_set]
theorem EnvOk.wipe {K : PySem.W.Frag} {G0 H0 G H : Hp} {σ : L2.St} {ρ : Env} (I : EnvOk K G0 H0 G H σ ρ) : ∀ vs : List Nat, EnvOk K G0 H0 G H (L2.wipe σ vs) (wipeE ρ vs)
  | [] => I
  | v :: vs => (EnvOk.wipe I vs).setNo v
theorem gsOf_ok {K : PySem.W.Frag} {G0 H0 G H : Hp} {Q : L2.St → Hp → Prop} : ∀ (is : List Nat) (σ : L2.St) (ρ : Env) (vs : List V) (ds : List PD), EnvOk K G0 H0 G H σ ρ → RpA K G vs ds → ds.length = is.length →
    (∀ σ', EnvOk K G0 H0 G H σ' (setAll ρ (is.zip ds)) → (∀ us, (∀ i ∈ is, i ∈ us) → wipe σ' us = wipe σ us) → Q σ' H) → gsOf is vs σ H Q
  | [], σ, ρ, vs, ds, I, r, hl, h => by
    cases ds with
    | nil => cases r; exact ⟨rfl, h σ I fun _ _ => rfl⟩
    | cons d ds => simp at hl
  | i :: is, σ, ρ, vs, ds, I, r, hl, h => by
    cases ds with
    | nil => simp at hl
    | cons d ds =>
      cases r with
      | cons h1 h2 =>
        refine ⟨_, _, rfl, gsOf_ok is _ (ρ.set i (.im d)) _ ds (I.setIm i h1) h2 (by simpa using hl) fun σ' I' hw => h σ' I' fun us hu => ?_⟩
        rw [hw us fun j hj => hu j (List.mem_cons_of_mem _ hj)]
        exact wipe_set (hu i List.mem_cons_self)
theorem tgOf_ok {K : PySem.W.Frag} {G0 H0 G H : Hp} {Q : L2.St → Hp → Prop} {σ : L2.St} {ρ : Env} {v : V} {d : PD} (k : Tg) (I : EnvOk K G0 H0 G H σ ρ) (r : Rp K G v d) (h : match bindT k d ρ with
    | some ρ' => ∀ σ', EnvOk K G0 H0 G H σ' ρ' → (∀ us, (∀ i ∈ slotsT k, i ∈ us) → wipe σ' us = wipe σ us) → Q σ' H
    | none => False) : tgOf K k v σ H Q := by
  cases k with
  | nm i => exact h _ (I.setIm i r) fun us hu => wipe_set (hu i List.mem_cons_self)
  | tp is =>
    unfold bindT at h
    cases d with
    | tuple ds =>
      by_cases c : ds.length = is.length
      · simp only [if_pos c] at h
        cases r with
        | tup h1 h2 => exact ⟨_, _, rfl, SqT.of (I.s _ _ h1), by rw [h2.length]; exact c, gsOf_ok is σ ρ _ _ I h2 c h⟩
      · simp only [if_neg c] at h
    | _ => exact h.elim
structure SG (X : Cx) (tg : Expr) (k : Tg) : Prop where
  p : PG X tg (tgOf X.K k)
theorem sg_name {x : Str} {pos : Pos} (i : Nat) (hN : X.N.Nodup) (hx : Loc X.env.scope x) (hi : X.N[i]? = some x := by rfl) (hf : X.fn x = true ∨ X.env.scope.names.lookup x = some .local := by first | exact .inl rfl | exact .inr rfl | assumption) : SG X (.Name x pos) (.nm i) :=
  ⟨pg_name hN hi hx hf⟩
structure SGs (X : Cx) (ts : List Expr) (is : List Nat) : Prop where
  p : PGs X ts (gsOf is)
theorem sgs_nil : SGs X [] [] := ⟨pgs_nil⟩
theorem sgs_cons {x : Str} {pos : Pos} {ts : List Expr} {is : List Nat} (i : Nat) (hN : X.N.Nodup) (hx : Loc X.env.scope x) (hr : SGs X ts is) (hi : X.N[i]? = some x := by rfl) (hf : X.fn x = true ∨ X.env.scope.names.lookup x = some .local := by first | exact .inl rfl | exact .inr rfl | assumption) : SGs X (.Name x pos :: ts) (i :: is) :=
  ⟨pgs_cons (pg_name hN hi hx hf) hr.p⟩
theorem sg_tup {ts : List Expr} {k : Nat} {pos : Pos} {is : List Nat} (hc : X.calm = true) (hr : SGs X ts is) (hn : (assignEach ts X.env).length = is.length := by rfl) (hst : (assignEach ts X.env).findIdx? (·.1) = none := by rfl) : SG X (.Tuple ts k pos) (.tp is) :=
  ⟨pg_tup hc hr.p hn hst⟩

/-! ### for -/
def forL (b : Tg) (body : SD) : List PD → Env → SO
  | [], ρ => .nx ρ
  | d :: ds, ρ => match bindT b d ρ with
    | none => .st
    | some ρ1 => match body ρ1 with
      | .nx ρ' => forL b body ds ρ'
      | .ct ρ' => forL b body ds ρ'
      | .bk ρ' => .nx ρ'
      | .rt r => .rt r
      | .rv r ρ' => .rv r ρ'
      | .ev c ρ' => .ev c ρ'
      | .ex c => .ex c
      | .st => .st
def forD (s : LD) (b : Tg) (body : SD) : SD := fun ρ => match s ρ with
  | .ok ds => forL b body ds ρ
  | .ex c => .ex c
  | .st => .st
theorem ss_for {tg iter : Expr} {body : List Stmt} {s : LD} {b : Tg} {d : SD} {pos : Pos} (hp : PassesOwn (model X.prog X.w) X.A X.env X.xe) (hc : X.calm = true) (hi : SI X E C tg iter s) (hg : SG X tg b) (hb : SB X E C body d)
    (hs : ∀ x, foldedSetIterable iter X.env x = pure x := by intro _; rfl) : SS X E C (.For tg iter body [] pos) (forD s b d) := by
  obtain ⟨wi, pw, sw⟩ := hi
  obtain ⟨pg⟩ := hg
  obtain ⟨tb, pb, sb⟩ := hb
  refine ⟨_, ps_for hp hc pw pg pb hs, fun G0 H0 G H σ ρ D I h => ?_⟩
  refine sw G0 H0 G H σ ρ _ I ?_
  unfold forD at h
  cases e : s ρ with
  | st => rw [e] at h; exact h
  | ex c => rw [e] at h; exact fun G' H' g => h G' H' (I.b.trans g)
  | ok ds =>
    rw [e] at h
    intro J G1 H1 g1 wk
    refine ⟨fun i m σ' H' => ∃ G' ρ', EnvOk X.K G0 H0 G' H' σ' ρ' ∧ Same G1 G' ∧ m = ds.length - i ∧ i ≤ ds.length ∧ SOk X.K E C G0 H0 G' D (forL b d (ds.drop i) ρ'), ⟨ds.length, G1, ρ, I.grow g1, Same.refl _, rfl, Nat.zero_le _, SOk.up h g1.g⟩, ?_⟩
    rintro i m σ' H' ⟨G', ρ', I', s', rfl, hi, h'⟩
    by_cases hlt : i < ds.length
    · have hd : ds[i]? = some ds[i] := List.getElem?_eq_getElem hlt
      obtain ⟨go, yl⟩ := (wk i H' (s'.trans I'.s)).2 _ hd
      refine .inr ⟨go, fun σ2 H2 => ∃ G2 ρ2, EnvOk X.K G0 H0 G2 H2 σ2 ρ2 ∧ Same G1 G2 ∧ SOk X.K E C G0 H0 G2 D (forL b d (ds.drop (i + 1)) ρ2), fun σ2 H2 ⟨G2, ρ2, a1, a2, a3⟩ => ⟨ds.length - (i + 1), by omega, G2, ρ2, a1, a2, rfl, hlt, a3⟩, fun v H2 hy => ?_⟩
      obtain ⟨G2, g2, rv⟩ := yl v H2 hy G' s' I'.s
      have I2 := I'.grow g2
      refine tgOf_ok b I2 rv ?_
      rw [List.drop_eq_getElem_cons hlt] at h'
      unfold forL at h'
      cases eb : bindT b ds[i] ρ' with
      | none => simp only [eb] at h'; exact h'
      | some ρ1 =>
        simp only [eb] at h'
        intro σ3 I3 _
        refine sb G0 H0 G2 H2 σ3 ρ1 _ I3 ?_
        cases ed : d ρ1 with
        | nx ρ4 => simp only [ed] at h'; exact fun σ4 G4 H4 s4 I4 => ⟨G4, ρ4, I4, (s'.trans g2.g).trans s4, SOk.up h' (g2.g.trans s4)⟩
        | ct ρ4 => simp only [ed] at h'; exact fun σ4 G4 H4 s4 I4 => ⟨G4, ρ4, I4, (s'.trans g2.g).trans s4, SOk.up h' (g2.g.trans s4)⟩
        | bk ρ4 => simp only [ed] at h'; exact fun σ4 G4 H4 s4 I4 => h' σ4 G4 H4 (g2.g.trans s4) I4
        | rt r => simp only [ed] at h'; exact h'
        | rv r ρ4 => simp only [ed] at h'; exact fun v σ4 G4 H4 s4 I4 r4 => h' v σ4 G4 H4 (g2.g.trans s4) I4 r4
        | ev r ρ4 => simp only [ed] at h'; exact fun σ4 G4 H4 s4 I4 => h' σ4 G4 H4 (g2.g.trans s4) I4
        | ex r => simp only [ed] at h'; exact h'
        | st => simp only [ed] at h'; exact h'
    · have e2 : i = ds.length := by omega
      refine .inl ⟨(wk i H' (s'.trans I'.s)).1 (by omega), ?_⟩
      rw [e2, List.drop_length] at h'
      exact h' σ' G' H' (Same.refl _) I'

/-! ### while, by a number of turns that is enough -/
def whileN (t : TD) (body : SD) : Nat → Env → SO
  | 0, _ => .st
  | n + 1, ρ => match t ρ with
    | .ok true => match body ρ with
      | .nx ρ' => whileN t body n ρ'
      | .ct ρ' => whileN t body n ρ'
      | .bk ρ' => .nx ρ'
      | .rt r => .rt r
      | .rv r ρ' => .rv r ρ'
      | .ev c ρ' => .ev c ρ'
      | .ex c => .ex c
      | .st => .st
    | .ok false => .nx ρ
    | .ex c => .ex c
    | .st => .st
theorem ss_while {c : Expr} {body : List Stmt} {t : TD} {d : SD} {pos : Pos} (n : Nat) (hp : PassesOwn (model X.prog X.w) X.A X.env X.xe) (hc : ST X E C c t) (hb : SB X E C body d) : SS X E C (.While c body [] pos) (whileN t d n) := by
  obtain ⟨tc, pc, sc⟩ := hc
  obtain ⟨tb, pb, sb⟩ := hb
  refine ⟨_, ps_while hp pc pb, fun G0 H0 G H σ ρ D I h => ?_⟩
  refine ⟨fun m σ' H' => ∃ G' ρ', EnvOk X.K G0 H0 G' H' σ' ρ' ∧ SOk X.K E C G0 H0 G D (whileN t d m ρ') ∧ Same G G', ⟨n, G, ρ, I, h, Same.refl _⟩, ?_⟩
  rintro m σ' H' ⟨G', ρ', I', h', s'⟩
  cases m with
  | zero => exact h'.elim
  | succ m =>
    unfold whileN at h'
    refine sc G0 H0 G' H' σ' ρ' _ I' ?_
    cases e : t ρ' with
    | st => rw [e] at h'; exact h'
    | ex c => rw [e] at h'; exact fun G2 H2 g => h' G2 H2 (I'.b.trans g)
    | ok b =>
      rw [e] at h'
      intro G2 H2 g2
      have I2 := I'.grow g2
      have s2 := s'.trans g2.g
      cases b with
      | false => exact h' σ' G2 H2 s2 I2
      | true =>
        refine ⟨fun σ3 H3 => ∃ G3 ρ3, EnvOk X.K G0 H0 G3 H3 σ3 ρ3 ∧ SOk X.K E C G0 H0 G D (whileN t d m ρ3) ∧ Same G G3, fun σ3 H3 q => ⟨m, Nat.lt_succ_self m, q⟩, ?_⟩
        refine sb G0 H0 G2 H2 σ' ρ' _ I2 ?_
        cases ed : d ρ' with
        | nx ρ4 => simp only [ed] at h'; exact fun σ4 G4 H4 s4 I4 => ⟨G4, ρ4, I4, h', s2.trans s4⟩
        | ct ρ4 => simp only [ed] at h'; exact fun σ4 G4 H4 s4 I4 => ⟨G4, ρ4, I4, h', s2.trans s4⟩
        | bk ρ4 => simp only [ed] at h'; exact fun σ4 G4 H4 s4 I4 => h' σ4 G4 H4 (s2.trans s4) I4
        | rt r => simp only [ed] at h'; exact h'
        | rv r ρ4 => simp only [ed] at h'; exact fun v σ4 G4 H4 s4 I4 r4 => h' v σ4 G4 H4 (s2.trans s4) I4 r4
        | ev r ρ4 => simp only [ed] at h'; exact fun σ4 G4 H4 s4 I4 => h' σ4 G4 H4 (s2.trans s4) I4
        | ex r => simp only [ed] at h'; exact h'
        | st => simp only [ed] at h'; exact h'
end
end Z

/-! ## Z8 -/
set_option Elab.async false
set_option linter.all false
set_option maxRecDepth 100000
set_option maxHeartbeats 2000000
namespace Z
open PySem PySem.Spec PyProof.Rows L2

def noX {α : Type} : Out α → Out α
  | .ex _ => .st
  | o => o
/-- an element, its test: each turn begins with the entries ahead, the block's own names forgotten -/
def lcL (k : Tg) (t : TD) (e : ED) (ρ : Env) : List PD → Out (List PD)
  | [] => .ok []
  | d :: ds => match bindT k d ρ with
    | none => .st
    | some ρ1 => (noX (t ρ1)).bind fun c => if c = true then (noX (e ρ1)).bind fun r => match r.fz with
        | .im y => (lcL k t e ρ ds).bind fun ys => .ok (y :: ys)
        | _ => .st
      else lcL k t e ρ ds
def lcD (s : LD) (vs : List Nat) (k : Tg) (t : TD) (e : ED) : ED := fun ρ => (s ρ).bind fun ds => (lcL k t e (wipeE ρ vs) ds).bind fun ys => if ys.length ≤ 100000 then .ok (.fr 0 ys) else .st
def yesT : TD := fun _ => .ok true
/-- the heap without one place -/
def hide (H : Hp) (D : Addr) : Hp := fun b => if b = D then none else H b
theorem hide_ne {H : Hp} {D b : Addr} (h : b ≠ D) : hide H D b = H b := if_neg h
theorem hide_same {H : Hp} {D : Addr} : hide H D D = none := if_pos rfl
theorem same_hide {H : Hp} {D : Addr} : Same (hide H D) H := fun b o e => by
  by_cases h : b = D
  · subst h; rw [hide_same] at e; cases e
  · rw [hide_ne h] at e; exact e
theorem same_to_hide {G H : Hp} {D : Addr} (s : Same G H) (n : G D = none) : Same G (hide H D) := fun b o e => by
  have h : b ≠ D := fun q => by subst q; rw [n] at e; cases e
  rw [hide_ne h]
  exact s _ _ e
theorem hide_upd {H : Hp} {D : Addr} {o : HO} : hide (upd H D o) D = hide H D := by
  funext b
  by_cases h : b = D
  · subst h; rw [hide_same, hide_same]
  · rw [hide_ne h, hide_ne h, upd_ne h]
/-- from the heap without the place to the heap -/
theorem Grow.unhide {G H : Hp} {D : Addr} (s : Same G (hide H D)) : Grow G (hide H D) G H := ⟨Same.refl _, same_hide, s.trans same_hide, fun _ _ _ _ h => h⟩
/-- behind what grew the heap -/
theorem Grow.rehide {G0 H0 G H G' H' : Hp} {D : Addr} {o : HO} (a : Grow G0 H0 G (hide H D)) (b : Grow G H G' H') (n0 : H0 D = none) (hD : H D = some o) (m : Mut (some o)) (nG : G D = none) : Grow G0 H0 G' (hide H' D) ∧ G' D = none := by
  have nG' : G' D = none := b.m D o hD m nG
  refine ⟨⟨a.g.trans b.g, fun x u e => ?_, same_to_hide b.s nG', fun x u h1 h2 h3 => ?_⟩, nG'⟩
  · have h : x ≠ D := fun q => by subst q; rw [n0] at e; cases e
    have e1 := a.h _ _ e
    rw [hide_ne h] at e1 ⊢
    exact b.h _ _ e1
  · have e1 := a.h _ _ h1
    exact b.m x u (same_hide _ _ e1) h2 (a.m x u h1 h2 h3)
structure STs (X : Cx) (E : XK) (C : CM) (ifs : List Expr) (t : TD) : Prop where
  p : ∃ tt, PTs X ifs tt ∧ SimT X.K E C tt t
section
variable {X : Cx} {E : XK} {C : CM}
theorem sts_nil : STs X E C [] yesT := ⟨_, pts_nil, fun G0 H0 G H σ ρ Q I h => h G H (Grow.refl I.s)⟩
theorem sts_one {c : Expr} {t : TD} (h : ST X E C c t) : STs X E C [c] t := by
  obtain ⟨tt, p, s⟩ := h
  exact ⟨_, pts_one p, s⟩
/-- the contexts of a block -/
structure Bk where
  s : Shared
  H : Hp
  C : Addr
  cl : List (Str × Addr)
  fp : List Addr
abbrev Bk.x (X : Cx) (scope : Scope) (b : Bk) : Cx := X.blk b.s b.H scope (compEnvC scope b.cl b.C X.env) b.fp
theorem blk_e {scope : Scope} {e : Expr} {d : ED} (h : ∀ b : Bk, SE (b.x X scope) E C e d) : ∃ te, (∀ b : Bk, PE (b.x X scope) e te) ∧ SimE X.K E C te d := by
  let te : Bk → TE := fun b => (h b).p.choose
  have h1 : ∀ b, PE (b.x X scope) e (te b) := fun b => (h b).p.choose_spec.1
  have h2 : ∀ b, SimE X.K E C (te b) d := fun b => (h b).p.choose_spec.2
  refine ⟨fun σ H Q => ∀ b, te b σ H Q, fun b => ⟨fun pins s σ H Q I q => (h1 b).run pins s σ H Q I (q b)⟩, fun G0 H0 G H σ ρ Q I q b => h2 b G0 H0 G H σ ρ Q I q⟩
theorem blk_t {scope : Scope} {e : List Expr} {d : TD} (h : ∀ b : Bk, STs (b.x X scope) E C e d) : ∃ te, (∀ b : Bk, PTs (b.x X scope) e te) ∧ SimT X.K E C te d := by
  let te : Bk → TT := fun b => (h b).p.choose
  have h1 : ∀ b, PTs (b.x X scope) e (te b) := fun b => (h b).p.choose_spec.1
  have h2 : ∀ b, SimT X.K E C (te b) d := fun b => (h b).p.choose_spec.2
  refine ⟨fun σ H Q => ∀ b, te b σ H Q, fun b => ⟨fun pins s σ H Q I q => (h1 b).run pins s σ H Q I (q b)⟩, fun G0 H0 G H σ ρ Q I q b => h2 b G0 H0 G H σ ρ Q I q⟩
theorem sim_noX {K : PySem.W.Frag} {te : TE} {d : ED} (h : SimE K E0 C te d) : SimE K E C te fun ρ => noX (d ρ) := by
  intro G0 H0 G H σ ρ Q I q
  refine h G0 H0 G H σ ρ Q I ?_
  cases e : d ρ with
  | ok r => simp only [e, noX] at q; exact q
  | ex c => simp only [e, noX] at q; exact q.elim
  | st => simp only [e, noX] at q; exact q
theorem sim_noT {K : PySem.W.Frag} {te : TT} {d : TD} (h : SimT K E0 C te d) : SimT K E C te fun ρ => noX (d ρ) := by
  intro G0 H0 G H σ ρ Q I q
  refine h G0 H0 G H σ ρ Q I ?_
  cases e : d ρ with
  | ok r => simp only [e, noX] at q; exact q
  | ex c => simp only [e, noX] at q; exact q.elim
  | st => simp only [e, noX] at q; exact q
theorem fresh_acc {K : PySem.W.Frag} {H0 G H : Hp} {vs : List V} {ds : List PD} {p : Addr} (h : RpA K G vs ds) (hp : H p = some (.lst vs)) (n0 : H0 p = none) (nG : G p = none) : ROk K H0 G H (.fr 0 ds) (.ref p) := by
  have hl := h.length
  refine ⟨((p, vs.zip ds) : Addr × List (V × PD)), ?_, rfl, ⟨?_, ?_⟩, ?_, ?_⟩
  · show (vs.zip ds).map (fun x => x.2) = ds
    rw [List.map_snd_zip (by omega)]
  · show H p = some (.lst ((vs.zip ds).map (fun x => x.1)))
    rw [hp, List.map_fst_zip (by omega)]
  · have key : ∀ y ∈ (vs.zip ds : List (V × PD)), Rp K G y.1 y.2 := by
      intro y hy
      obtain ⟨i, hi⟩ := List.mem_iff_getElem?.mp hy
      rw [List.getElem?_zip_eq_some] at hi
      obtain ⟨d, e1, e2⟩ := h.get hi.1
      rw [hi.2] at e1
      cases e1
      exact e2
    exact key
  · have key : ∀ l : List (V × PD), l.Pairwise fun y z => ∀ a ∈ ATy.adr 0 y, a ∉ ATy.adr 0 z := fun l => List.pairwise_of_forall (fun _ _ a ha => nomatch ha)
    exact ⟨fun y _ => ⟨trivial, fun h => nomatch h⟩, key _⟩
  · intro a ha
    have e : a = p := by
      have : a ∈ (p :: (vs.zip ds).flatMap (fun _ => ([] : List Addr))) := ha
      simpa using this
    subst e
    exact ⟨n0, nG⟩
theorem RpA.snoc {K : PySem.W.Frag} {G : Hp} {vs : List V} {ds : List PD} {v : V} {d : PD} (h : RpA K G vs ds) (r : Rp K G v d) : RpA K G (vs ++ [v]) (ds ++ [d]) := h.append (.cons r .nil)
/-- the reading of a comprehension's loop -/
theorem sim_lc {K : PySem.W.Frag} {wi : TI} {s : LD} {k : Tg} {tt : TT} {t : TD} {te : TE} {e : ED} {vs : List Nat} (hv : ∀ i ∈ slotsT k, i ∈ vs)
    (sw : ∀ G0 H0 G H σ ρ (Q : It → Hp → Prop), EnvOk K G0 H0 G H σ ρ → (match s ρ with
      | .ok ds => ∀ J G' H', Grow G H G' H' → Walks K J G' ds (fun H2 => Same H' H2) → Q J H'
      | .ex c => ∀ G' H', Grow G H G' H' → E (C c) none H'
      | .st => False) → wi σ H Q)
    (st : SimT K E0 C tt t) (se : SimE K E0 C te e) : SimE K E C (tLc wi (tgOf K k) tt te vs) (lcD s vs k t e) := by
  intro G0 H0 G H σ ρ Q I h
  unfold lcD at h
  refine sw G0 H0 G H σ ρ _ I ?_
  cases es : s ρ with
  | st => rw [es] at h; exact h
  | ex c => rw [es] at h; exact h
  | ok ds =>
    rw [es] at h
    intro J G1 H1 g1 wk D hD
    have I1 := I.grow g1
    -- what is left to make
    have h' : ∀ ys, lcL k t e (wipeE ρ vs) ds = .ok ys → ys.length ≤ 100000 ∧ OOk K E C G H Q (.ok (.fr 0 ys)) := by
      intro ys ey
      have q : OOk K E C G H Q ((lcL k t e (wipeE ρ vs) ds).bind fun ys => if ys.length ≤ 100000 then .ok (.fr 0 ys) else .st) := h
      rw [ey] at q
      by_cases c : ys.length ≤ 100000
      · exact ⟨c, by have q' : OOk K E C G H Q (if ys.length ≤ 100000 then .ok (.fr 0 ys) else .st) := q; rw [if_pos c] at q'; exact q'⟩
      · have q' : OOk K E C G H Q (if ys.length ≤ 100000 then .ok (.fr 0 ys) else .st) := q
        rw [if_neg c] at q'
        exact q'.elim
    have hok : ∃ ys, lcL k t e (wipeE ρ vs) ds = .ok ys := by
      have q : OOk K E C G H Q ((lcL k t e (wipeE ρ vs) ds).bind fun ys => if ys.length ≤ 100000 then .ok (.fr 0 ys) else .st) := h
      cases ey : lcL k t e (wipeE ρ vs) ds with
      | ok ys => exact ⟨ys, rfl⟩
      | ex c =>
        exfalso
        have key : ∀ (ds : List PD) c, lcL k t e (wipeE ρ vs) ds ≠ .ex c := by
          intro ds
          induction ds with
          | nil => intro c q; cases q
          | cons d ds ih =>
            intro c q
            unfold lcL at q
            cases eb : bindT k d (wipeE ρ vs) with
            | none => simp only [eb] at q; cases q
            | some ρ1 =>
              simp only [eb] at q
              cases et : t ρ1 with
              | ex c => simp [et, noX, Out.bind] at q
              | st => simp [et, noX, Out.bind] at q
              | ok b =>
                simp only [et, noX, Out.bind] at q
                cases b with
                | false => exact ih c q
                | true =>
                  simp only [if_true] at q
                  cases ee : e ρ1 with
                  | ex c => simp [ee] at q
                  | st => simp [ee] at q
                  | ok r =>
                    simp only [ee] at q
                    cases er : r.fz with
                    | im y =>
                      simp only [er] at q
                      cases el : lcL k t e (wipeE ρ vs) ds with
                      | ok ys => simp [el] at q
                      | ex c' => exact ih c' el
                      | st => simp [el] at q
                    | ro n u => simp only [er, reduceCtorEq] at q
                    | fr n u => simp only [er, reduceCtorEq] at q
        exact key ds c ey
      | st => rw [ey] at q; exact q.elim
    obtain ⟨ys, ey⟩ := hok
    obtain ⟨hlen, hfin⟩ := h' ys ey
    have s1 : Same H1 (hide (upd H1 D (.lst [])) D) := by rw [hide_upd]; exact same_to_hide (Same.refl _) hD
    have gs : Grow G1 H1 G1 (hide (upd H1 D (.lst [])) D) := ⟨Same.refl _, s1, I1.s.trans s1, fun _ _ _ _ h => h⟩
    refine ⟨fun i m H2 => ∃ G2 acc out rest, Grow G1 H1 G2 (hide H2 D) ∧ G2 D = none ∧ H2 D = some (.lst acc) ∧ RpA K G2 acc out ∧ m = ds.length - i ∧ i ≤ ds.length ∧ lcL k t e (wipeE ρ vs) (ds.drop i) = .ok rest ∧ ys = out ++ rest,
      ⟨ds.length, G1, [], [], ys, gs, I1.s.free hD, upd_same, .nil, rfl, Nat.zero_le _, ey, rfl⟩, ?_⟩
    rintro i m H2 ⟨G2, acc, out, rest, g2, nG, hacc, rv, rfl, hi, hr, hy⟩
    have gu : Grow G2 (hide H2 D) G2 H2 := Grow.unhide g2.s
    have g12 : Grow G1 H1 G2 H2 := g2.trans gu
    have I2 := I1.grow g12
    by_cases hlt : i < ds.length
    · have hd : ds[i]? = some ds[i] := List.getElem?_eq_getElem hlt
      obtain ⟨go, yl⟩ := (wk i H2 g12.h).2 _ hd
      refine .inr ⟨go, fun H3 => ∃ G3 acc out rest, Grow G1 H1 G3 (hide H3 D) ∧ G3 D = none ∧ H3 D = some (.lst acc) ∧ RpA K G3 acc out ∧ lcL k t e (wipeE ρ vs) (ds.drop (i + 1)) = .ok rest ∧ ys = out ++ rest, fun H3 ⟨G3, acc, out, rest, a1, a2, a3, a4, a5, a6⟩ => ⟨ds.length - (i + 1), by omega, G3, acc, out, rest, a1, a2, a3, a4, rfl, hlt, a5, a6⟩, fun v H3 hyl => ?_⟩
      obtain ⟨G3, g3, rd⟩ := yl v H3 hyl G2 g12.g I2.s
      have I3 := I2.grow g3
      refine tgOf_ok k (I3.wipe vs) rd ?_
      rw [List.drop_eq_getElem_cons hlt] at hr
      unfold lcL at hr
      cases eb : bindT k ds[i] (wipeE ρ vs) with
      | none => simp only [eb] at hr; cases hr
      | some ρ1 =>
        simp only [eb] at hr
        intro σ3 I4 hw
        refine ⟨?_, ?_⟩
        · have key : ∀ (us : List Nat) (σ : L2.St), wipe (wipe σ us) us = wipe σ us := by
            intro us
            induction us with
            | nil => intro σ; rfl
            | cons u us ih =>
              intro σ
              show (wipe ((wipe σ us).set u none) us).set u none = (wipe σ us).set u none
              by_cases hm : u ∈ us
              · rw [wipe_set hm, ih]
              · have key2 : ∀ (vs : List Nat) (σ : L2.St) (o : Option V) (i : Nat), i ∉ vs → wipe (σ.set i o) vs = (wipe σ vs).set i o := by
                  intro vs
                  induction vs with
                  | nil => intro σ o i _; rfl
                  | cons u us ih =>
                    intro σ o i hn
                    simp only [List.mem_cons, not_or] at hn
                    show (wipe (σ.set i o) us).set u none = ((wipe σ us).set u none).set i o
                    rw [ih σ o i hn.2, List.set_comm]
                    exact fun e => hn.1 e
                rw [key2 us _ none u hm, ih, List.set_set]
          rw [hw vs hv, key]
        · refine st G0 H0 G3 H3 σ3 ρ1 _ I4 ?_
          cases et : t ρ1 with
          | ex c => simp [et, noX, Out.bind] at hr
          | st => simp [et, noX, Out.bind] at hr
          | ok b =>
            simp only [et, noX, Out.bind] at hr
            intro G4 H4 g4
            have I5 := I4.grow g4
            have g24 := g3.trans g4
            cases b with
            | false =>
              obtain ⟨r1, r2⟩ := g2.rehide g24 hD hacc trivial nG
              exact ⟨G4, acc, out, rest, r1, r2, g24.h _ _ hacc, rv.up g24.g, hr, hy⟩
            | true =>
              simp only [if_true] at hr
              refine se G0 H0 G4 H4 σ3 ρ1 _ I5 ?_
              cases ee : e ρ1 with
              | ex c => simp [ee] at hr
              | st => simp [ee] at hr
              | ok r =>
                simp only [ee] at hr
                -- the element, known
                have fin : ∀ (y : PD) (v : V) G5 H5, r.fz = .im y → Grow G4 H4 G5 H5 → Rp K G5 v y → ∃ acc, H5 D = some (.lst acc) ∧ acc.length < sizeLine ∧ ∃ G3 acc' out rest, Grow G1 H1 G3 (hide (upd H5 D (.lst (acc ++ [v]))) D) ∧ G3 D = none ∧ (upd H5 D (.lst (acc ++ [v]))) D = some (.lst acc') ∧ RpA K G3 acc' out ∧ lcL k t e (wipeE ρ vs) (ds.drop (i + 1)) = .ok rest ∧ ys = out ++ rest := by
                  intro y v G5 H5 er g5 ry
                  simp only [er] at hr
                  have g25 := g24.trans g5
                  obtain ⟨r1, r2⟩ := g2.rehide g25 hD hacc trivial nG
                  cases el : lcL k t e (wipeE ρ vs) (ds.drop (i + 1)) with
                  | ex c => simp [el] at hr
                  | st => simp [el] at hr
                  | ok rest' =>
                    simp only [el] at hr
                    have er2 : y :: rest' = rest := by injection hr
                    have hl := rv.length
                    have hl2 : out.length ≤ ys.length := by rw [hy]; simp
                    refine ⟨acc, g25.h _ _ hacc, lt_line (by omega), G5, acc ++ [v], out ++ [y], rest', by rw [hide_upd]; exact r1, r2, upd_same, (rv.up g25.g).snoc ry, rfl, by rw [hy, ← er2]; simp⟩
                intro v G5 H5 g5 hr5
                cases r with
                | im y => exact fin y v G5 H5 rfl g5 hr5
                | ro n u => simp [R.fz] at hr
                | fr n u =>
                  obtain ⟨G6, s6, g6, r6⟩ := hr5.freeze g5.s g5
                  exact fin _ v G6 H5 rfl g6 r6
    · have e2 : i = ds.length := by omega
      refine .inl ⟨(wk i H2 g12.h).1 (by omega), ?_⟩
      rw [e2, List.drop_length] at hr
      have e3 : rest = [] := by cases hr; rfl
      subst e3
      rw [List.append_nil] at hy
      subst hy
      exact hfin _ G2 H2 (g1.trans g12) (fresh_acc rv hacc (g1.h.free hD) nG)
theorem se_lc {elt tg iter : Expr} {ifs : List Expr} {scope : Scope} {own : List (Str × Nat)} {pos : Pos} {s : LD} {k : Tg} {t : TD} {e : ED} (hc : X.calm = true) (hN : X.N.Nodup) (hi : SJ X E C tg iter s) (ok : BlkOk X.N X.env.scope scope own) (hv : ∀ i ∈ slotsT k, i ∈ own.map (·.2))
    (hg : ∀ b : Bk, SG (b.x X scope) tg k) (ht : ∀ b : Bk, STs (b.x X scope) E0 C ifs t) (he : ∀ b : Bk, SE (b.x X scope) E0 C elt e) (hs : ∀ x, foldedSetIterable iter X.env x = pure x := by intro _; rfl) :
    SE X E C (.ListComp elt [⟨tg, iter, ifs, 0⟩] scope pos) (lcD s (own.map (·.2)) k t e) := by
  obtain ⟨wi, pw, sw⟩ := hi
  obtain ⟨te, pe, se⟩ := blk_e he
  obtain ⟨tt, pt, st⟩ := blk_t ht
  exact ⟨_, pe_lc hc hN pw ok (fun s H C cl fp => (hg ⟨s, H, C, cl, fp⟩).p) (fun s H C cl fp => pt ⟨s, H, C, cl, fp⟩) (fun s H C cl fp => pe ⟨s, H, C, cl, fp⟩) hs, sim_lc hv sw st se⟩
/-- y = [..], y a local, on one line -/
theorem ss_asgLc {y : Str} {py : Pos} {elt tg iter : Expr} {ifs : List Expr} {scope : Scope} {own : List (Str × Nat)} {pos spos : Pos} {s : LD} {k : Tg} {t : TD} {e : ED} (i : Nat) (hc : X.calm = true) (hN : X.N.Nodup) (hyl : X.env.scope.names.lookup y = some .local)
    (hsw : swapsWith (.ListComp elt [⟨tg, iter, ifs, 0⟩] scope pos) (some (.Name y py)) spos.line X.env = pure true) (hi : SJ X E C tg iter s) (ok : BlkOk X.N X.env.scope scope own) (hv : ∀ i ∈ slotsT k, i ∈ own.map (·.2))
    (hg : ∀ b : Bk, SG (b.x X scope) tg k) (ht : ∀ b : Bk, STs (b.x X scope) E0 C ifs t) (he : ∀ b : Bk, SE (b.x X scope) E0 C elt e) (hy : X.N[i]? = some y := by rfl) (hs : ∀ x, foldedSetIterable iter X.env x = pure x := by intro _; rfl) :
    SS X E C (.Assign [.Name y py] (.ListComp elt [⟨tg, iter, ifs, 0⟩] scope pos) spos) (asgD i (lcD s (own.map (·.2)) k t e)) := by
  obtain ⟨wi, pw, sw⟩ := hi
  obtain ⟨te, pe, se⟩ := blk_e he
  obtain ⟨tt, pt, st⟩ := blk_t ht
  exact ⟨_, ps_setLc hc hN hy hyl hsw pw ok (fun s H C cl fp => (hg ⟨s, H, C, cl, fp⟩).p) (fun s H C cl fp => pt ⟨s, H, C, cl, fp⟩) (fun s H C cl fp => pe ⟨s, H, C, cl, fp⟩) hs, sim_asg i (sim_lc hv sw st se)⟩
end
end Z

/-! ## Z9 -/
set_option Elab.async false
set_option linter.all false
set_option maxRecDepth 100000
set_option maxHeartbeats 2000000
namespace Z
open PySem PySem.Spec PyProof.Rows L2

/-! ### owned lists change -/
/-- the entries, and places that nobody of them owns -/
structure EnvR (K : PySem.W.Frag) (G0 H0 G H : Hp) (σ : L2.St) (ρ : Env) (F : List Addr) : Prop where
  len : σ.length = ρ.length
  b : Grow G0 H0 G H
  e : ∃ w : Addr → Option Nat, (∀ (i : Nat) (e : Ent), ρ[i]? = some e → EntOk K H0 G H w i e (σ.getD i none)) ∧ ∀ a ∈ F, w a = none ∧ G a = none ∧ H0 a = none
section
variable {K : PySem.W.Frag} {G0 H0 G H G' H' : Hp} {σ : L2.St} {ρ : Env} {F : List Addr}
theorem EnvOk.r (I : EnvOk K G0 H0 G H σ ρ) : EnvR K G0 H0 G H σ ρ [] := by
  obtain ⟨l, b, w, e⟩ := I
  exact ⟨l, b, w, e, fun _ h => nomatch h⟩
theorem EnvR.ok (I : EnvR K G0 H0 G H σ ρ F) : EnvOk K G0 H0 G H σ ρ := by
  obtain ⟨l, b, w, e, _⟩ := I
  exact ⟨l, b, w, e⟩
theorem EntOk.relabel {w w' : Addr → Option Nat} {i : Nat} {e : Ent} {o : Option V} (h : EntOk K H0 G H w i e o) (k : ∀ a, w a = some i → w' a = some i) : EntOk K H0 G H w' i e o := by
  cases e with
  | no => trivial
  | im d => exact h
  | ow n t =>
    obtain ⟨x, e1, e2, e3, e4, e5⟩ := h
    exact ⟨x, e1, e2, e3, e4, fun a ha => ⟨k a (e5 a ha).1, (e5 a ha).2⟩⟩
  | vv v => exact h
  | ob a C fs =>
    obtain ⟨z1, z2, z3⟩ := h
    exact ⟨z1, k a z2, z3⟩
/-- what is new since an earlier heap belongs to no entry -/
theorem EnvOk.fresh (I : EnvOk K G0 H0 G H σ ρ) (g : Grow G H G' H') (hF : ∀ a ∈ F, H a = none ∧ G' a = none) : EnvR K G0 H0 G' H' σ ρ F := by
  obtain ⟨len, b, w0, hw0⟩ := I
  refine ⟨len, b.trans g, fun a => if a ∈ F then none else w0 a, fun j e he => ?_, fun a ha => ⟨if_pos ha, (hF a ha).2, b.h.free (hF a ha).1⟩⟩
  have h := hw0 j e he
  have h' := h.grow g
  cases e with
  | no => trivial
  | im d => exact h'
  | vv v => exact h'
  | ob a C fs =>
    obtain ⟨z1, z2, z3, dx, vs, z4, z5⟩ := h'
    obtain ⟨_, _, _, _, _, y4, _⟩ := h
    refine ⟨z1, ?_, z3, dx, vs, z4, z5⟩
    show (if a ∈ F then none else w0 a) = some j
    rw [if_neg]
    · exact z2
    · intro q
      rw [(hF a q).1] at y4
      cases y4
  | ow m u =>
    obtain ⟨y, y1, y2, y3, y4, y5⟩ := h
    refine ⟨y, y1, y2, ATy.ok_mono g.g g.h _ _ y3, y4, fun a ha => ⟨?_, g.m a _ (ATy.in_heap _ _ y3 a ha).choose_spec trivial (y5 a ha).2.1, (y5 a ha).2.2⟩⟩
    show (if a ∈ F then none else w0 a) = some j
    rw [if_neg]
    · exact (y5 a ha).1
    · intro q
      obtain ⟨xs, hx⟩ := ATy.in_heap _ _ y3 a ha
      rw [(hF a q).1] at hx
      cases hx
/-- an entry is given up: its lists are nobody's -/
theorem EnvOk.drop (I : EnvOk K G0 H0 G H σ ρ) {j n : Nat} {t : Ty (n + 1)} (hj : ρ[j]? = some (.ow n t)) : ∃ x : ATy (n + 1), σ.getD j none = some (ATy.val (n + 1) x) ∧ ATy.era (n + 1) x = t ∧ ATy.ok K G H (n + 1) x ∧ ATy.nd (n + 1) x ∧ EnvR K G0 H0 G H σ (ρ.set j .no) (ATy.adr (n + 1) x) := by
  obtain ⟨len, b, w, hw⟩ := I
  obtain ⟨x, x1, x2, x3, x4, x5⟩ := hw j _ hj
  refine ⟨x, x1, x2, x3, x4, by simp [len], b, fun a => if a ∈ ATy.adr (n + 1) x then none else w a, fun i e he => ?_, fun a ha => ⟨if_pos ha, (x5 a ha).2⟩⟩
  by_cases c : j = i
  · subst c
    have hl : j < ρ.length := (List.getElem?_eq_some_iff.mp hj).1
    rw [List.getElem?_set_self hl] at he
    cases he
    trivial
  · rw [List.getElem?_set_ne c] at he
    refine (hw i e he).relabel fun a ha => ?_
    show (if a ∈ ATy.adr (n + 1) x then none else w a) = some i
    rw [if_neg]
    · exact ha
    · intro q
      rw [(x5 a q).1] at ha
      exact c (Option.some.inj ha)
theorem EnvR.at {i n : Nat} {t : Ty (n + 1)} (I : EnvR K G0 H0 G H σ ρ F) (hi : ρ[i]? = some (.ow n t)) : ∃ x : ATy (n + 1), σ.getD i none = some (ATy.val (n + 1) x) ∧ ATy.era (n + 1) x = t ∧ ATy.ok K G H (n + 1) x ∧ ATy.nd (n + 1) x ∧ (∀ a ∈ ATy.adr (n + 1) x, a ∉ F) ∧
    ∀ (x' : ATy (n + 1)) (a : Addr) (o : HO), ATy.val (n + 1) x' = ATy.val (n + 1) x → a ∈ ATy.adr (n + 1) x → ATy.ok K G (upd H a o) (n + 1) x' → ATy.nd (n + 1) x' → (∀ b ∈ ATy.adr (n + 1) x', b ∈ ATy.adr (n + 1) x ∨ b ∈ F) → EnvOk K G0 H0 G (upd H a o) σ (ρ.set i (.ow n (ATy.era (n + 1) x'))) := by
  obtain ⟨len, b, w, hw, hF⟩ := I
  obtain ⟨x, x1, x2, x3, x4, x5⟩ := hw i _ hi
  refine ⟨x, x1, x2, x3, x4, fun a ha q => ?_, fun x' a o e1 ha e2 e3 e4 => ?_⟩
  · have := (hF a q).1
    rw [(x5 a ha).1] at this
    cases this
  · have nH : H0 a = none := (x5 a ha).2.2
    have nG : G a = none := (x5 a ha).2.1
    have sH : Same H0 (upd H a o) := fun c u e => by
      rw [upd_ne (ne_of_none e nH)]
      exact b.h _ _ e
    have sG : Same G (upd H a o) := fun c u e => by
      rw [upd_ne (ne_of_none e nG)]
      exact b.s _ _ e
    refine ⟨by simp [len], ⟨b.g, sH, sG, b.m⟩, fun c => if c ∈ F then some i else w c, fun j e he => ?_⟩
    by_cases c : i = j
    · subst c
      have hl : i < ρ.length := (List.getElem?_eq_some_iff.mp hi).1
      rw [List.getElem?_set_self hl] at he
      cases he
      refine ⟨x', by rw [x1, e1], rfl, e2, e3, fun d hd => ?_⟩
      rcases e4 d hd with h | h
      · refine ⟨?_, (x5 d h).2⟩
        show (if d ∈ F then some i else w d) = some i
        by_cases q : d ∈ F
        · rw [if_pos q]
        · rw [if_neg q]; exact (x5 d h).1
      · exact ⟨if_pos h, (hF d h).2⟩
    · rw [List.getElem?_set_ne c] at he
      have h := hw j e he
      cases e with
      | no => trivial
      | im d => exact h
      | vv v => exact h
      | ob a0 C fs =>
        obtain ⟨z1, z2, z3, dx, vs, z4, z5⟩ := h
        refine ⟨z1, ?_, z3, dx, vs, ?_, z5⟩
        · show (if a0 ∈ F then some i else w a0) = some j
          rw [if_neg]
          · exact z2
          · intro q
            have e5 := (hF a0 q).1
            rw [z2] at e5
            cases e5
        · rw [upd_ne]
          · exact z4
          · intro q
            subst q
            have e5 := (x5 a0 ha).1
            rw [z2] at e5
            exact c (Option.some.inj e5).symm
      | ow m u =>
        obtain ⟨y, y1, y2, y3, y4, y5⟩ := h
        refine ⟨y, y1, y2, ATy.ok_keep (Same.refl _) _ _ (fun d hd => ?_) y3, y4, fun d hd => ⟨?_, (y5 d hd).2⟩⟩
        · rw [upd_ne]
          intro q
          subst q
          have e5 := (y5 d hd).1
          rw [(x5 d ha).1] at e5
          exact c (Option.some.inj e5)
        · show (if d ∈ F then some i else w d) = some j
          rw [if_neg]
          · exact (y5 d hd).1
          · intro q
            have e5 := (hF d q).1
            rw [(y5 d hd).1] at e5
            cases e5

/-! ### places within -/
def pathV (H : Hp) : V → List Nat → Option V
  | v, [] => some v
  | .ref a, j :: r => match H a with
    | some (.lst vs) => match vs[j]? with
      | some u => pathV H u r
      | none => none
    | _ => none
  | _, _ => none
theorem pathV_mono (s : Same H H') : ∀ (p : List Nat) (v u : V), pathV H v p = some u → pathV H' v p = some u
  | [], _, _, h => by simpa [pathV] using h
  | j :: r, v, u, h => by
    cases v with
    | ref a =>
      unfold pathV at h ⊢
      cases e : H a with
      | none => rw [e] at h; cases h
      | some o =>
        rw [e] at h
        rw [s _ _ e]
        cases o with
        | lst vs =>
          simp only at h ⊢
          cases e2 : vs[j]? with
          | none => rw [e2] at h; cases h
          | some z => rw [e2] at h; exact pathV_mono s r z u h
        | _ => cases h
    | _ => cases h
theorem pathV_app : ∀ (p q : List Nat) (v u : V), pathV H v p = some u → pathV H v (p ++ q) = pathV H u q
  | [], q, v, u, h => by
    have e : v = u := by simpa [pathV] using h
    rw [e] <;> rfl
  | j :: r, q, v, u, h => by
    cases v with
    | ref a =>
      have key : ∀ s, pathV H (.ref a) (j :: s) = (match H a with
        | some (.lst vs) => match vs[j]? with
          | some u => pathV H u s
          | none => none
        | _ => none) := fun s => by rw [pathV]
      show pathV H (.ref a) (j :: (r ++ q)) = _
      rw [key] at h ⊢
      cases e : H a with
      | none => rw [e] at h; cases h
      | some o =>
        rw [e] at h
        cases o with
        | lst vs =>
          simp only at h ⊢
          cases e2 : vs[j]? with
          | none => rw [e2] at h; cases h
          | some z =>
            rw [e2] at h
            simp only at h ⊢
            exact pathV_app r q z u h
        | _ => cases h
    | _ => cases h
abbrev Ty.ks {n : Nat} (l : Ty (n + 1)) : List (Ty n) := l
/-- how many items stand at a place -/
def lenP : (n : Nat) → Ty (n + 1) → List Nat → Option Nat
  | _, l, [] => some (List.length l)
  | 0, _, _ :: _ => none
  | n + 1, l, j :: r => match (Ty.ks l)[j]? with
    | some u => lenP n u r
    | none => none
/-- the list at a place changes -/
def modP (f : (m : Nat) → List (Ty m) → Option (List (Ty m))) : (n : Nat) → Ty (n + 1) → List Nat → Option (Ty (n + 1))
  | n, l, [] => f n l
  | 0, _, _ :: _ => none
  | n + 1, l, j :: r => match (Ty.ks l)[j]? with
    | some u => match modP f n u r with
      | some u' => some ((Ty.ks l).set j u')
      | none => none
    | none => none
theorem lenP_ok : ∀ (p : List Nat) (n : Nat) (x : ATy (n + 1)) (l : Nat), lenP n (ATy.era (n + 1) x) p = some l → ATy.ok K G H (n + 1) x → ∃ a vs, pathV H (ATy.val (n + 1) x) p = some (.ref a) ∧ H a = some (.lst vs) ∧ vs.length = l
  | [], n, x, l, h, ok => by
    have h' : some (List.length ((x.2 : List (ATy n)).map (ATy.era n))) = some l := by
      cases n <;> exact h
    refine ⟨x.1, _, rfl, ok.1, ?_⟩
    have := Option.some.inj h'
    simpa using this
  | j :: r, 0, x, l, h, ok => by cases h
  | j :: r, n + 1, x, l, h, ok => by
    have h' : (match ((x.2 : List (ATy (n + 1))).map (ATy.era (n + 1)))[j]? with
      | some u => lenP n u r
      | none => none) = some l := h
    rw [List.getElem?_map] at h'
    cases e : (x.2 : List (ATy (n + 1)))[j]? with
    | none => rw [e] at h'; cases h'
    | some y =>
      rw [e] at h'
      obtain ⟨a, vs, h1, h2, h3⟩ := lenP_ok r n y l h' (ok.2 y (List.mem_of_getElem? e))
      refine ⟨a, vs, ?_, h2, h3⟩
      show pathV H (.ref x.1) (j :: r) = _
      unfold pathV
      rw [ok.1]
      simp only [List.getElem?_map, e, Option.map_some]
      exact h1
theorem modP_ok {f : (m : Nat) → List (Ty m) → Option (List (Ty m))} {F : List Addr} : ∀ (p : List Nat) (n : Nat) (x : ATy (n + 1)) (t' : Ty (n + 1)), modP f n (ATy.era (n + 1) x) p = some t' → ATy.ok K G H (n + 1) x → ATy.nd (n + 1) x → (∀ b ∈ ATy.adr (n + 1) x, b ∉ F) →
    ∃ (a : Addr) (m : Nat) (ks : List (ATy m)) (l' : List (Ty m)), pathV H (ATy.val (n + 1) x) p = some (.ref a) ∧ a ∈ ATy.adr (n + 1) x ∧ H a = some (.lst (ks.map (ATy.val m))) ∧ f m (ks.map (ATy.era m)) = some l' ∧ (∀ y ∈ ks, ATy.ok K G H m y) ∧ (∀ y ∈ ks, ∀ b ∈ ATy.adr m y, b ∉ F) ∧ (ks.Pairwise fun y z => ∀ a ∈ ATy.adr m y, a ∉ ATy.adr m z) ∧
      ∀ ks' : List (ATy m), ks'.map (ATy.era m) = l' → (∀ z ∈ ks', z ∈ ks ∨ (ATy.ok K G H m z ∧ ATy.nd m z ∧ ∀ b ∈ ATy.adr m z, b ∈ F)) → (ks'.Pairwise fun y z => ∀ a ∈ ATy.adr m y, a ∉ ATy.adr m z) →
        ∃ x' : ATy (n + 1), ATy.val (n + 1) x' = ATy.val (n + 1) x ∧ ATy.era (n + 1) x' = t' ∧ ATy.ok K G (upd H a (.lst (ks'.map (ATy.val m)))) (n + 1) x' ∧ ATy.nd (n + 1) x' ∧ ∀ b ∈ ATy.adr (n + 1) x', b ∈ ATy.adr (n + 1) x ∨ b ∈ F
  | [], n, x, t', h, ok, nd, hF => by
    have h' : f n ((x.2 : List (ATy n)).map (ATy.era n)) = some t' := by cases n <;> exact h
    have hx1 : x.1 ∈ ATy.adr (n + 1) x := by simp [ATy.adr]
    have hin : ∀ y ∈ (x.2 : List (ATy n)), ∀ b ∈ ATy.adr n y, b ∈ ATy.adr (n + 1) x := fun y hy b hb => by
      simp only [ATy.adr, List.mem_cons, List.mem_flatMap]
      exact .inr ⟨y, hy, hb⟩
    refine ⟨x.1, n, x.2, t', rfl, hx1, ok.1, h', ok.2, fun y hy b hb => hF b (hin y hy b hb), nd.2, fun ks' e1 hk hp => ?_⟩
    have apart : ∀ z ∈ ks', x.1 ∉ ATy.adr n z := fun z hz q => by
      rcases hk z hz with h | h
      · exact (nd.1 z h).2 q
      · exact hF _ hx1 (h.2.2 _ q)
    refine ⟨((x.1, ks') : Addr × List (ATy n)), rfl, e1, ⟨upd_same, fun z hz => ?_⟩, ⟨fun z hz => ⟨?_, apart z hz⟩, hp⟩, fun b hb => ?_⟩
    · refine ATy.ok_keep (Same.refl _) n z (fun b hb => upd_ne fun q => ?_) ?_
      · subst q; exact apart z hz hb
      · rcases hk z hz with h | h
        · exact ok.2 z h
        · exact h.1
    · rcases hk z hz with h | h
      · exact (nd.1 z h).1
      · exact h.2.1
    · have hb' : b ∈ x.1 :: ks'.flatMap (ATy.adr n) := hb
      simp only [List.mem_cons, List.mem_flatMap] at hb'
      rcases hb' with rfl | ⟨z, hz, hb⟩
      · exact .inl hx1
      · rcases hk z hz with h | h
        · exact .inl (hin z h b hb)
        · exact .inr (h.2.2 b hb)
  | j :: r, 0, x, t', h, ok, nd, hF => by cases h
  | j :: r, n + 1, x, t', h, ok, nd, hF => by
    have hx1 : x.1 ∈ ATy.adr (n + 2) x := by simp [ATy.adr]
    have hin : ∀ y ∈ (x.2 : List (ATy (n + 1))), ∀ b ∈ ATy.adr (n + 1) y, b ∈ ATy.adr (n + 2) x := fun y hy b hb => by
      simp only [ATy.adr, List.mem_cons, List.mem_flatMap]
      exact .inr ⟨y, hy, by simpa [ATy.adr] using hb⟩
    have h' : (match ((x.2 : List (ATy (n + 1))).map (ATy.era (n + 1)))[j]? with
      | some u => match modP f n u r with
        | some u' => some ((((x.2 : List (ATy (n + 1))).map (ATy.era (n + 1))) : List (Ty (n + 1))).set j u')
        | none => none
      | none => none) = some t' := h
    rw [List.getElem?_map] at h'
    cases e : (x.2 : List (ATy (n + 1)))[j]? with
    | none => rw [e] at h'; cases h'
    | some y =>
      rw [e] at h'
      simp only [Option.map_some] at h'
      have hy := List.mem_of_getElem? e
      cases e2 : modP f n (ATy.era (n + 1) y) r with
      | none => rw [e2] at h'; cases h'
      | some u' =>
        rw [e2] at h'
        have et : ((x.2 : List (ATy (n + 1))).map (ATy.era (n + 1))).set j u' = t' := Option.some.inj h'
        obtain ⟨a, m, ks, l', h1, h2, h3, h4, h5, h6, h7, h8⟩ := modP_ok r n y u' e2 (ok.2 y hy) (nd.1 y hy).1 (fun b hb => hF b (hin y hy b hb))
        refine ⟨a, m, ks, l', ?_, hin y hy a h2, h3, h4, h5, h6, h7, fun ks' e1 hk hp => ?_⟩
        · show pathV H (.ref x.1) (j :: r) = _
          unfold pathV
          rw [ok.1]
          simp only [List.getElem?_map, e, Option.map_some]
          exact h1
        · obtain ⟨y', q1, q2, q3, q4, q5⟩ := h8 ks' e1 hk hp
          have hjl : j < (x.2 : List (ATy (n + 1))).length := (List.getElem?_eq_some_iff.mp e).1
          have ej : (x.2 : List (ATy (n + 1)))[j] = y := (List.getElem?_eq_some_iff.mp e).2
          have a1 : a ≠ x.1 := fun q => (nd.1 y hy).2 (q ▸ h2)
          have pw := List.pairwise_iff_getElem.mp nd.2
          have other : ∀ (i : Nat) (hi : i < (x.2 : List (ATy (n + 1))).length), i ≠ j → ∀ b ∈ ATy.adr (n + 1) y, b ∉ ATy.adr (n + 1) ((x.2 : List (ATy (n + 1)))[i]) := by
            intro i hi hne b hb q
            by_cases c : i < j
            · exact pw i j hi hjl c b q (ej ▸ hb)
            · exact pw j i hjl hi (by omega) b (ej ▸ hb) q
          have mem' : ∀ z ∈ (x.2 : List (ATy (n + 1))).set j y', z = y' ∨ ∃ (i : Nat) (hi : i < (x.2 : List (ATy (n + 1))).length), i ≠ j ∧ z = (x.2 : List (ATy (n + 1)))[i] := by
            intro z hz
            obtain ⟨i, hi, ez⟩ := List.mem_iff_getElem.mp hz
            rw [List.length_set] at hi
            by_cases c : j = i
            · subst c
              rw [List.getElem_set_self] at ez
              exact .inl ez.symm
            · rw [List.getElem_set_ne c] at ez
              exact .inr ⟨i, hi, Ne.symm c, ez.symm⟩
          refine ⟨((x.1, (x.2 : List (ATy (n + 1))).set j y') : Addr × List (ATy (n + 1))), rfl, ?_, ⟨?_, ?_⟩, ⟨?_, ?_⟩, ?_⟩
          · show ((x.2 : List (ATy (n + 1))).set j y').map (ATy.era (n + 1)) = t'
            rw [List.map_set, q2, et]
          · show upd H a _ x.1 = some (.lst (((x.2 : List (ATy (n + 1))).set j y').map (ATy.val (n + 1))))
            rw [upd_ne (Ne.symm a1), ok.1, List.map_set, q1]
            have e3 : ((x.2 : List (ATy (n + 1))).map (ATy.val (n + 1))).set j (ATy.val (n + 1) y) = (x.2 : List (ATy (n + 1))).map (ATy.val (n + 1)) := by
              rw [← ej, ← List.map_set, List.set_getElem_self]
            rw [e3]
          · intro z hz
            rcases mem' z hz with rfl | ⟨i, hi, hne, rfl⟩
            · exact q3
            · refine ATy.ok_keep (Same.refl _) _ _ (fun b hb => upd_ne fun q => ?_) (ok.2 _ (List.getElem_mem hi))
              subst q
              exact other i hi hne b h2 hb
          · intro z hz
            rcases mem' z hz with rfl | ⟨i, hi, hne, rfl⟩
            · refine ⟨q4, fun q => ?_⟩
              rcases q5 _ q with h | h
              · exact (nd.1 y hy).2 h
              · exact hF _ hx1 h
            · exact nd.1 _ (List.getElem_mem hi)
          · have disj : ∀ (i : Nat) (hi : i < (x.2 : List (ATy (n + 1))).length), i ≠ j → ∀ b ∈ ATy.adr (n + 1) y', b ∉ ATy.adr (n + 1) ((x.2 : List (ATy (n + 1)))[i]) := by
              intro i hi hne b hb q
              rcases q5 b hb with h | h
              · exact other i hi hne b h q
              · exact hF b (hin _ (List.getElem_mem hi) b q) h
            refine List.pairwise_iff_getElem.mpr fun i1 i2 hi1 hi2 hlt => ?_
            have hi1' : i1 < (x.2 : List (ATy (n + 1))).length := by simpa using hi1
            have hi2' : i2 < (x.2 : List (ATy (n + 1))).length := by simpa using hi2
            intro b hb q
            by_cases c1 : j = i1
            · subst c1
              rw [List.getElem_set_self] at hb
              rw [List.getElem_set_ne (by omega)] at q
              exact disj i2 hi2' (by omega) b hb q
            · rw [List.getElem_set_ne c1] at hb
              by_cases c2 : j = i2
              · subst c2
                rw [List.getElem_set_self] at q
                exact disj i1 hi1' (by omega) b q hb
              · rw [List.getElem_set_ne c2] at q
                exact pw i1 i2 hi1' hi2' hlt b hb q
          · intro b hb
            have hb' : b ∈ x.1 :: ((x.2 : List (ATy (n + 1))).set j y').flatMap (ATy.adr (n + 1)) := hb
            simp only [List.mem_cons, List.mem_flatMap] at hb'
            rcases hb' with rfl | ⟨z, hz, hb2⟩
            · exact .inl hx1
            · rcases mem' z hz with ez | ⟨i, hi, hne, ez⟩
              · rw [ez] at hb2
                rcases q5 b hb2 with h | h
                · exact .inl (hin y hy b h)
                · exact .inr h
              · rw [ez] at hb2
                exact .inl (hin _ (List.getElem_mem hi) b hb2)
end
end Z

/-! ## ZA -/
set_option Elab.async false
set_option linter.all false
set_option maxRecDepth 100000
set_option maxHeartbeats 2000000
namespace Z
open PySem PySem.Spec PyProof.Rows L2

abbrev QD := Env → Out (List Nat)
/-- a place within an owned list: x, x[e], x[e][f] .. -/
structure SPl (X : Cx) (E : XK) (C : CM) (i : Nat) (e : Expr) (q : QD) : Prop where
  p : ∃ te, PE X e te ∧ ∀ G0 H0 G H σ ρ (Q : VK), EnvOk X.K G0 H0 G H σ ρ → (match q ρ with
    | .ok p => ∀ v G' H', Grow G H G' H' → (∀ v0, σ.getD i none = some v0 → pathV H' v0 p = some v) → Q v H'
    | .ex c => ∀ G' H', Grow G H G' H' → E (C c) none H'
    | .st => False) → te σ H Q
def QOk (E : XK) (C : CM) (σ : L2.St) (i : Nat) (Q : VK) (G H : Hp) : Out (List Nat) → Prop
  | .ok p => ∀ v G' H', Grow G H G' H' → (∀ v0, σ.getD i none = some v0 → pathV H' v0 p = some v) → Q v H'
  | .ex c => ∀ G' H', Grow G H G' H' → E (C c) none H'
  | .st => False
theorem famQ {E : XK} {C : CM} {σ : L2.St} {i : Nat} {Q : VK} : Fam E C (QOk E C σ i Q) := ⟨fun {G H G' H' o} h g => by
  cases o with
  | ok r => exact fun v G2 H2 g2 => h v G2 H2 (g.trans g2)
  | ex c => exact fun G2 H2 g2 => h G2 H2 (g.trans g2)
  | st => exact h, fun h => h, fun h => h⟩
def varQ : QD := fun _ => .ok []
def ixQ (i : Nat) (q : QD) (e : ED) : QD := fun ρ => (q ρ).bind fun p => (e ρ).bind fun r => match r.dat with
  | .int k => match ρ[i]? with
    | some (.ow n t) => match lenP n t p with
      | some l => match ixN l k with
        | some j => .ok (p ++ [j])
        | none => .st
      | none => .st
    | _ => .st
  | _ => .st
section
variable {X : Cx} {E : XK} {C : CM}
theorem spl_var (i : Nat) {x : Str} {pos : Pos} (hN : X.N[i]? = some x := by rfl) (hv : Vis X.env.scope x := by first | exact Or.inl rfl | exact Or.inr (Or.inl rfl) | exact Or.inr (Or.inr rfl)) (hd : (x == ("__debug__" : Str)) = false := by decide)
    (hcd : (x == ("__classdict__" : Str)) = false := by decide) (w : True := trivial) : SPl X E C i (.Name x pos) (fun ρ => match ρ[i]? with
      | some (.ow _ _) => .ok []
      | _ => .st) := ⟨_, pe_var hN hv hd hcd, fun G0 H0 G H σ ρ Q I h => by
  obtain ⟨len, b, w, he⟩ := I
  cases e : ρ[i]? with
  | none => rw [e] at h; exact h.elim
  | some x =>
    rw [e] at h
    have q := he i x e
    cases x with
    | no => exact h.elim
    | im d => exact h.elim
    | ow n t =>
      obtain ⟨y, ev, _⟩ := q
      refine ⟨_, getD_some ev, h _ G H (Grow.refl b.s) fun v0 e0 => ?_⟩
      rw [ev] at e0
      cases e0
      rfl
    | vv v => exact h.elim
    | ob a C fs => exact h.elim⟩
theorem spl_ix {i : Nat} {e f : Expr} {q : QD} {d : ED} {pos : Pos} (he : SPl X E C i e q) (hf : SE X E C f d) (hs : PlainIx f) : SPl X E C i (.Subscript e f pos) (ixQ i q d) := by
  obtain ⟨te, pe, se⟩ := he
  obtain ⟨tf, pf, sf⟩ := hf
  refine ⟨_, pe_ix ix_seq pe pf hs, fun G0 H0 G H σ ρ Q I h => ?_⟩
  refine se G0 H0 G H σ ρ _ I ?_
  unfold ixQ at h
  cases eq : q ρ with
  | st => rw [eq] at h; exact h
  | ex c => rw [eq] at h; exact h
  | ok p =>
    rw [eq] at h
    intro v G1 H1 g1 hv
    have I1 := I.grow g1
    have h1 : QOk E C σ i Q G1 H1 ((d ρ).bind fun r => match r.dat with
      | .int k => match ρ[i]? with
        | some (.ow n t) => match lenP n t p with
          | some l => match ixN l k with
            | some j => .ok (p ++ [j])
            | none => .st
          | none => .st
        | _ => .st
      | _ => .st) := famQ.up (show QOk E C σ i Q G H _ from h) g1
    refine sf.use famQ I1 h1 fun r x G2 H2 e2 g2 I2 k2 h2 => ?_
    have k := k2.rp I2.s
    split at h2
    · rename_i k0 q0
      rw [q0] at k
      cases k
      split at h2
      · rename_i n t eρ
        split at h2
        · rename_i l el
          split at h2
          · rename_i j ej
            obtain ⟨z, z1, z2, z3, _⟩ := I2.r.at eρ
            subst z2
            obtain ⟨a, vs, a1, a2, a3⟩ := lenP_ok p n z l el z3
            have hv2 := pathV_mono g2.h p _ _ (hv _ z1)
            rw [a1] at hv2
            cases hv2
            obtain ⟨_, hj, _⟩ := ixN_seq ej
            have hjl : j < vs.length := by omega
            refine .inl ⟨a, vs, k0, vs[j], rfl, rfl, SqL.of a2, ?_, h2 _ G2 H2 (Grow.refl I2.s) fun v0 e0 => ?_⟩
            · unfold atI
              rw [a3, ej]
              exact List.getElem?_eq_getElem hjl
            · rw [z1] at e0
              cases e0
              rw [pathV_app p [j] _ _ a1]
              show pathV H2 (.ref a) [j] = _
              unfold pathV
              rw [a2]
              simp only [List.getElem?_eq_getElem hjl]
              rfl
          · exact h2.elim
        · exact h2.elim
      · exact h2.elim
    · exact h2.elim

/-! ### append -/
abbrev T0 (d : PD) : Ty 0 := d
abbrev LF := (m : Nat) → List (Ty m) → Option (List (Ty m))
def apF (d : PD) : LF
  | 0, l => if l.length ≤ 100000 then some (l ++ [T0 d]) else none
  | _ + 1, _ => none
def apN (n : Nat) (t : Ty (n + 1)) : LF
  | 0, _ => none
  | m + 1, l => if h : m = n then if l.length ≤ 100000 then some (l ++ [h ▸ t]) else none else none
def upE (i : Nat) (p : List Nat) (f : LF) : SD := fun ρ => match ρ[i]? with
  | some (.ow n t) => match modP f n t p with
    | some t' => .nx (ρ.set i (.ow n t'))
    | none => .st
  | _ => .st
def apR (r : R) : Option LF := match r with
  | .im d => some (apF d)
  | .fr n t => some (apN n t)
  | .ro _ _ => none
def bindQ (o : Out (List Nat)) (k : List Nat → SO) : SO := match o with
  | .ok p => k p
  | .ex c => .ex c
  | .st => .st
def appD (i : Nat) (q : QD) (e : ED) : SD := fun ρ => bindQ (q ρ) fun p => bindS (noX (e ρ)) fun r => match apR r with
  | some f => upE i p f ρ
  | none => .st
theorem pairwise_snoc {α : Type} {P : α → α → Prop} {l : List α} {z : α} (h : l.Pairwise P) (k : ∀ y ∈ l, P y z) : (l ++ [z]).Pairwise P := by
  rw [List.pairwise_append]
  exact ⟨h, List.pairwise_singleton _ _, fun a ha b hb => by rw [List.mem_singleton] at hb; subst hb; exact k a ha⟩
/-- what an append at a place does -/
theorem app_step {K : PySem.W.Frag} {G0 H0 G H : Hp} {σ : L2.St} {ρ : Env} {F : List Addr} {i n : Nat} {t t' : Ty (n + 1)} {p : List Nat} {r : R} {f : LF} {y v : V} (I : EnvR K G0 H0 G H σ ρ F) (hi : ρ[i]? = some (.ow n t)) (hr : ROk K hpE G H r y) (hF : ∀ m u, r = .fr m u → ∃ z : ATy (m + 1), ATy.era (m + 1) z = u ∧ ATy.val (m + 1) z = y ∧ ATy.ok K G H (m + 1) z ∧ ATy.nd (m + 1) z ∧ ∀ a ∈ ATy.adr (m + 1) z, a ∈ F)
    (ef : apR r = some f) (em : modP f n t p = some t') (hv : ∀ v0, σ.getD i none = some v0 → pathV H v0 p = some v) : ∃ a xs, v = .ref a ∧ H a = some (.lst xs) ∧ xs.length < sizeLine ∧ EnvOk K G0 H0 G (upd H a (.lst (xs ++ [y]))) σ (ρ.set i (.ow n t')) := by
  obtain ⟨x, x1, x2, x3, x4, x5, x6⟩ := I.at hi
  subst x2
  obtain ⟨a, m, ks, l', a1, a2, a3, a4, a5, a6, a7, a8⟩ := modP_ok (F := F) p n x t' em x3 x4 x5
  have e1 := hv _ x1
  rw [a1] at e1
  cases e1
  refine ⟨a, _, rfl, a3, ?_, ?_⟩
  · rw [List.length_map]
    cases r with
    | ro m u => cases ef
    | im d =>
      cases ef
      cases m with
      | zero =>
        simp only [apF] at a4
        split at a4
        · rename_i c; rw [List.length_map] at c; exact lt_line c
        · cases a4
      | succ m => cases a4
    | fr k u =>
      cases ef
      cases m with
      | zero => cases a4
      | succ m =>
        simp only [apN] at a4
        split at a4
        · split at a4
          · rename_i c; rw [List.length_map] at c; exact lt_line c
          · cases a4
        · cases a4
  · have fin : ∀ z : ATy m, ATy.val m z = y → (ks.map (ATy.era m)) ++ [ATy.era m z] = l' → ATy.ok K G H m z → ATy.nd m z → (∀ b ∈ ATy.adr m z, b ∈ F) → EnvOk K G0 H0 G (upd H a (.lst (ks.map (ATy.val m) ++ [y]))) σ (ρ.set i (.ow n t')) := by
      intro z z1 z2 z3 z4 z5
      obtain ⟨x', q1, q2, q3, q4, q5⟩ := a8 (ks ++ [z]) (by rw [List.map_append]; exact z2) (fun w hw => by
        rw [List.mem_append, List.mem_singleton] at hw
        rcases hw with h | h
        · exact .inl h
        · subst h; exact .inr ⟨z3, z4, z5⟩) (pairwise_snoc a7 fun w hw b hb q => a6 w hw b hb (z5 b q))
      rw [List.map_append] at q3
      have e2 : List.map (ATy.val m) [z] = [y] := by rw [List.map_singleton, z1]
      rw [e2] at q3
      have := x6 x' a _ q1 a2 q3 q4 q5
      rw [q2] at this
      exact this
    cases r with
    | ro m u => cases ef
    | im d =>
      cases ef
      cases m with
      | zero =>
        simp only [apF] at a4
        split at a4
        · exact fin ((y, d) : V × PD) rfl (Option.some.inj a4) hr trivial (fun _ h => nomatch h)
        · cases a4
      | succ m => cases a4
    | fr k u =>
      cases ef
      cases m with
      | zero => cases a4
      | succ m =>
        simp only [apN] at a4
        split at a4
        · rename_i hmk
          subst hmk
          split at a4
          · obtain ⟨z, z1, z2, z3, z4, z5⟩ := hF m u rfl
            refine fin z z2 ?_ z3 z4 z5
            rw [z1]
            exact Option.some.inj a4
          · cases a4
        · cases a4
theorem ROk.frF {K : PySem.W.Frag} {H0 G H : Hp} {r : R} {v : V} (h : ROk K H0 G H r v) : ∃ F : List Addr, (∀ a ∈ F, H0 a = none ∧ G a = none) ∧ ∀ m u, r = .fr m u → ∃ z : ATy (m + 1), ATy.era (m + 1) z = u ∧ ATy.val (m + 1) z = v ∧ ATy.ok K G H (m + 1) z ∧ ATy.nd (m + 1) z ∧ ∀ a ∈ ATy.adr (m + 1) z, a ∈ F := by
  cases r with
  | im d => exact ⟨[], (fun _ h => nomatch h), fun m u e => by cases e⟩
  | ro n t => exact ⟨[], (fun _ h => nomatch h), fun m u e => by cases e⟩
  | fr n t =>
    obtain ⟨x, e1, e2, e3, e4, e5⟩ := h
    exact ⟨ATy.adr (n + 1) x, e5, fun m u e => by cases e; exact ⟨x, e1, e2, e3, e4, fun _ h => h⟩⟩
theorem sim_nx {K : PySem.W.Frag} {te : TE} {d : ED} (h : SimE K E C te d) : SimE K E C te fun ρ => noX (d ρ) := by
  intro G0 H0 G H σ ρ Q I q
  refine h G0 H0 G H σ ρ Q I ?_
  cases e : d ρ with
  | ok r => simp only [e, noX] at q; exact q
  | ex c => simp only [e, noX] at q; exact q.elim
  | st => simp only [e, noX] at q; exact q
theorem app_out {K : PySem.W.Frag} {G0 H0 G : Hp} {D : Ends} {ρ : Env} {i : Nat} {p : List Nat} {o : Out R} (h : SOk K E C G0 H0 G D (bindS (noX o) fun r => match apR r with
    | some f => upE i p f ρ
    | none => .st)) : ∃ r f n t t', o = .ok r ∧ apR r = some f ∧ ρ[i]? = some (.ow n t) ∧ modP f n t p = some t' := by
  cases o with
  | st => exact h.elim
  | ex c => exact h.elim
  | ok r =>
    cases ea : apR r with
    | none => simp only [noX, bindS, ea] at h; exact h.elim
    | some f =>
      simp only [noX, bindS, ea, upE] at h
      cases ei : ρ[i]? with
      | none => rw [ei] at h; exact h.elim
      | some en =>
        rw [ei] at h
        cases en with
        | no => exact h.elim
        | im _ => exact h.elim
        | ow n t =>
          simp only at h
          cases em : modP f n t p with
          | none => rw [em] at h; exact h.elim
          | some t' => exact ⟨r, f, n, t, t', rfl, ea, rfl, em⟩
        | vv _ => exact h.elim
        | ob _ _ _ => exact h.elim
theorem ss_app {i : Nat} {o e : Expr} {q : QD} {d : ED} {apos cpos pos : Pos} (ho : SPl X E C i o q) (he : SE X E C e d)
    (hst : starEach [e] X.env = (false, eval e X.env) :: starEach [] X.env := by rfl) (hpl : (backTo cpos (starEach [] X.env)).any (·.1) = false := by rfl)
    (hp : ∀ to t, PE X o to → PA X [e] t → PE X (.Call (.Attribute o "append" apos) [e] [] cpos) (tBM X.K "list" rAppend to t)) (hs : swapsWith (.Call (.Attribute o "append" apos) [e] [] cpos) none pos.line X.env = pure false := by rfl) :
    SS X E C (.Expr (.Call (.Attribute o "append" apos) [e] [] cpos) pos) (appD i q d) := by
  obtain ⟨to, po, so⟩ := ho
  obtain ⟨te, pe, se⟩ := he
  refine ⟨_, ps_expr (hp _ _ po (pa_cons pe pa_nil hst)) hs, fun G0 H0 G H σ ρ D I h => ?_⟩
  unfold appD at h
  refine so G0 H0 G H σ ρ _ I ?_
  cases eq : q ρ with
  | st => rw [eq] at h; exact h
  | ex c => rw [eq] at h; exact fun G' H' g => h G' H' (I.b.trans g)
  | ok p =>
    rw [eq] at h
    intro v G1 H1 g1 hv
    have I1 := I.grow g1
    have h1 : SOk X.K E C G0 H0 G1 D (bindS (noX (d ρ)) fun r => match apR r with
      | some f => upE i p f ρ
      | none => .st) := SOk.up h g1.g
    obtain ⟨r, f, n, t, t', ed, ef, ei, em⟩ := app_out h1
    have tyv : tyV X.K "list" v H1 := by
      obtain ⟨x, x1, x2, x3, x4, x5, x6⟩ := I1.r.at ei
      subst x2
      obtain ⟨a, m, ks, l', a1, a2, a3, _⟩ := modP_ok (F := []) p n x t' em x3 x4 x5
      have e1 := hv _ x1
      rw [a1] at e1
      cases e1
      exact .inl ⟨rfl, _, SqL.of a3⟩
    refine ⟨tyv, ?_⟩
    show te σ H1 _
    refine (sim_nx se).useS I1 h1 fun r' y G2 H2 e2 g2 I2 hr h2 => ?_
    have er : r' = r := by
      have e2' : noX (d ρ) = .ok r' := e2
      rw [ed] at e2'
      cases e2'
      rfl
    subst er
    obtain ⟨F, hF1, hF2⟩ := hr.frF
    obtain ⟨a, xs, ev, ha, hl, I3⟩ := app_step (I1.fresh g2 hF1) ei hr.e hF2 ef em (fun v0 e0 => pathV_mono g2.h p _ _ (hv v0 e0))
    refine ⟨a, xs, y, ev, rfl, ha, hl, ?_⟩
    simp only [ef, upE, ei, em] at h2
    exact h2 σ G2 _ (Same.refl _) I3
end
end Z
namespace Z
open PySem PySem.Spec PyProof.Rows L2
def ownQ (i : Nat) : QD := fun ρ => match ρ[i]? with
  | some (.ow _ _) => .ok []
  | _ => .st
end Z

/-! ## ZB -/
set_option Elab.async false
set_option linter.all false
set_option maxRecDepth 100000
set_option maxHeartbeats 2000000
namespace Z
open PySem PySem.Spec PyProof.Rows L2
section
variable {X : Cx} {E : XK} {C : CM}
/-! ### P.append(y), y an owned list: it moves -/
def appVD (i : Nat) (q : QD) (j : Nat) : SD := fun ρ => bindQ (q ρ) fun p => match ρ[j]? with
  | some (.im d) => upE i p (apF d) ρ
  | some (.ow n t) => upE i p (apN n t) (ρ.set j .no)
  | _ => .st
theorem upE_out {K : PySem.W.Frag} {G0 H0 G : Hp} {D : Ends} {ρ : Env} {i : Nat} {p : List Nat} {f : LF} (h : SOk K E C G0 H0 G D (upE i p f ρ)) : ∃ n t t', ρ[i]? = some (.ow n t) ∧ modP f n t p = some t' ∧ SOk K E C G0 H0 G D (.nx (ρ.set i (.ow n t'))) := by
  simp only [upE] at h
  cases ei : ρ[i]? with
  | none => rw [ei] at h; exact h.elim
  | some en =>
    rw [ei] at h
    cases en with
    | no => exact h.elim
    | im _ => exact h.elim
    | ow n t =>
      simp only at h
      cases em : modP f n t p with
      | none => rw [em] at h; exact h.elim
      | some t' => rw [em] at h; exact ⟨n, t, t', rfl, em, h⟩
    | vv _ => exact h.elim
    | ob _ _ _ => exact h.elim
theorem ss_appV {i j : Nat} {o : Expr} {x : Str} {q : QD} {xp apos cpos pos : Pos} (ho : SPl X E C i o q) (hN : X.N[j]? = some x := by rfl) (hv : Vis X.env.scope x := by first | exact Or.inl rfl | exact Or.inr (Or.inl rfl) | exact Or.inr (Or.inr rfl)) (hd : (x == ("__debug__" : Str)) = false := by decide)
    (hcd : (x == ("__classdict__" : Str)) = false := by decide)
    (hst : starEach [.Name x xp] X.env = (false, eval (.Name x xp) X.env) :: starEach [] X.env := by rfl)
    (hp : ∀ to t, PE X o to → PA X [.Name x xp] t → PE X (.Call (.Attribute o "append" apos) [.Name x xp] [] cpos) (tBM X.K "list" rAppend to t)) (hs : swapsWith (.Call (.Attribute o "append" apos) [.Name x xp] [] cpos) none pos.line X.env = pure false := by rfl) :
    SS X E C (.Expr (.Call (.Attribute o "append" apos) [.Name x xp] [] cpos) pos) (appVD i q j) := by
  obtain ⟨to, po, so⟩ := ho
  refine ⟨_, ps_expr (hp _ _ po (pa_cons (pe_var hN hv hd hcd) pa_nil hst)) hs, fun G0 H0 G H σ ρ D I h => ?_⟩
  unfold appVD at h
  refine so G0 H0 G H σ ρ _ I ?_
  cases eq : q ρ with
  | st => rw [eq] at h; exact h
  | ex c => rw [eq] at h; exact fun G' H' g => h G' H' (I.b.trans g)
  | ok p =>
    rw [eq] at h
    simp only [bindQ] at h
    intro v G1 H1 g1 hv
    have I1 := I.grow g1
    cases ej : ρ[j]? with
    | none => rw [ej] at h; exact h.elim
    | some en =>
      rw [ej] at h
      cases en with
      | no => exact h.elim
      | im d =>
        obtain ⟨n, t, t', ei, em, h'⟩ := upE_out h
        obtain ⟨len, b, w, hw⟩ := id I1
        obtain ⟨y, ey, ry⟩ := hw j _ ej
        obtain ⟨a, xs, ev, ha, hl, I3⟩ := app_step (r := .im d) I1.r ei ry (fun m u e => by cases e) rfl em hv
        exact ⟨by rw [ev]; exact .inl ⟨rfl, _, SqL.of ha⟩, y, getD_some ey, a, xs, y, ev, rfl, ha, hl, h' σ G1 _ g1.g I3⟩
      | vv v => exact h.elim
      | ob a C fs => exact h.elim
      | ow n2 t2 =>
        obtain ⟨n, t, t', ei, em, h'⟩ := upE_out h
        obtain ⟨z, z1, z2, z3, z4, IR⟩ := I1.drop ej
        obtain ⟨a, xs, ev, ha, hl, I3⟩ := app_step (r := .fr n2 t2) (y := ATy.val (n2 + 1) z) IR ei ⟨z, z2, rfl, z3, z4, fun a ha => ⟨rfl, (by obtain ⟨_, _, w, _, hF⟩ := id IR; exact (hF a ha).2.1)⟩⟩ (fun m u e => by cases e; exact ⟨z, z2, rfl, z3, z4, fun _ h => h⟩) rfl em hv
        exact ⟨by rw [ev]; exact .inl ⟨rfl, _, SqL.of ha⟩, _, getD_some z1, a, xs, _, ev, rfl, ha, hl, h' σ G1 _ g1.g I3⟩

/-! ### P[e] = f -/
def stF (k : Int) (d : PD) : LF
  | 0, l => (ixN l.length k).map fun j => l.set j (T0 d)
  | _ + 1, _ => none
def stN (k : Int) (n : Nat) (t : Ty (n + 1)) : LF
  | 0, _ => none
  | m + 1, l => if h : m = n then (ixN l.length k).map fun j => l.set j (h ▸ t) else none
def stR (k : Int) (r : R) : Option LF := match r with
  | .im d => some (stF k d)
  | .fr n t => some (stN k n t)
  | .ro _ _ => none
def setD (i : Nat) (q : QD) (ix e : ED) : SD := fun ρ => bindS (e ρ) fun r => bindQ (q ρ) fun p => bindS (ix ρ) fun r2 => match r2.dat with
  | .int k => match stR k r with
    | some f => upE i p f ρ
    | none => .st
  | _ => .st
theorem set_step {K : PySem.W.Frag} {G0 H0 G H : Hp} {σ : L2.St} {ρ : Env} {F : List Addr} {i n : Nat} {t t' : Ty (n + 1)} {p : List Nat} {r : R} {f : LF} {y v : V} {k : Int} (I : EnvR K G0 H0 G H σ ρ F) (hi : ρ[i]? = some (.ow n t)) (hr : ROk K hpE G H r y) (hF : ∀ m u, r = .fr m u → ∃ z : ATy (m + 1), ATy.era (m + 1) z = u ∧ ATy.val (m + 1) z = y ∧ ATy.ok K G H (m + 1) z ∧ ATy.nd (m + 1) z ∧ ∀ a ∈ ATy.adr (m + 1) z, a ∈ F)
    (ef : stR k r = some f) (em : modP f n t p = some t') (hv : ∀ v0, σ.getD i none = some v0 → pathV H v0 p = some v) : ∃ a xs j, v = .ref a ∧ H a = some (.lst xs) ∧ ixN xs.length k = some j ∧ EnvOk K G0 H0 G (upd H a (.lst (xs.set j y))) σ (ρ.set i (.ow n t')) := by
  obtain ⟨x, x1, x2, x3, x4, x5, x6⟩ := I.at hi
  subst x2
  obtain ⟨a, m, ks, l', a1, a2, a3, a4, a5, a6, a7, a8⟩ := modP_ok (F := F) p n x t' em x3 x4 x5
  have e1 := hv _ x1
  rw [a1] at e1
  cases e1
  have fin : ∀ (z : ATy m) (j : Nat), ixN ks.length k = some j → ATy.val m z = y → (ks.map (ATy.era m)).set j (ATy.era m z) = l' → ATy.ok K G H m z → ATy.nd m z → (∀ b ∈ ATy.adr m z, b ∈ F) → ∃ a' xs j, V.ref a = .ref a' ∧ H a' = some (.lst xs) ∧ ixN xs.length k = some j ∧ EnvOk K G0 H0 G (upd H a' (.lst (xs.set j y))) σ (ρ.set i (.ow n t')) := by
    intro z j z0 z1 z2 z3 z4 z5
    obtain ⟨x', q1, q2, q3, q4, q5⟩ := a8 (ks.set j z) (by rw [List.map_set]; exact z2) (fun w hw => by
      rcases List.mem_or_eq_of_mem_set hw with h | h
      · exact .inl h
      · subst h; exact .inr ⟨z3, z4, z5⟩) (by
      refine List.pairwise_iff_getElem.mpr fun i1 i2 h1 h2 hlt b hb q => ?_
      have pw := List.pairwise_iff_getElem.mp a7
      have l1 : i1 < ks.length := by simpa using h1
      have l2 : i2 < ks.length := by simpa using h2
      by_cases c1 : j = i1
      · subst c1
        rw [List.getElem_set_self] at hb
        rw [List.getElem_set_ne (by omega)] at q
        exact a6 _ (List.getElem_mem l2) b q (z5 b hb)
      · rw [List.getElem_set_ne c1] at hb
        by_cases c2 : j = i2
        · subst c2
          rw [List.getElem_set_self] at q
          exact a6 _ (List.getElem_mem l1) b hb (z5 b q)
        · rw [List.getElem_set_ne c2] at q
          exact pw i1 i2 l1 l2 hlt b hb q)
    rw [List.map_set, z1] at q3
    have := x6 x' a _ q1 a2 q3 q4 q5
    rw [q2] at this
    exact ⟨a, _, j, rfl, a3, by rw [List.length_map]; exact z0, this⟩
  cases r with
  | ro m u => cases ef
  | im d =>
    cases ef
    cases m with
    | zero =>
      simp only [stF, Option.map_eq_some_iff, List.length_map] at a4
      obtain ⟨j, j1, j2⟩ := a4
      exact fin ((y, d) : V × PD) j j1 rfl j2 hr trivial (fun _ h => nomatch h)
    | succ m => cases a4
  | fr k u =>
    cases ef
    cases m with
    | zero => cases a4
    | succ m =>
      simp only [stN] at a4
      split at a4
      · rename_i hmk
        subst hmk
        simp only [Option.map_eq_some_iff, List.length_map] at a4
        obtain ⟨j, j1, j2⟩ := a4
        obtain ⟨z, z1, z2, z3, z4, z5⟩ := hF m u rfl
        exact fin z j j1 z2 (by rw [z1]; exact j2) z3 z4 z5
      · cases a4
theorem ss_setI {i : Nat} {o ie e : Expr} {q : QD} {di d : ED} {sp pos : Pos} (ho : SPl X E C i o q) (hi : SE X E C ie di) (he : SE X E C e d)
    (hg : ∀ to ti, PE X o to → PE X ie ti → PG X (.Subscript o ie sp) (gSub to ti rSetL)) (hs : swapsWithSole [.Subscript o ie sp] e pos.line X.env = pure false := by rfl) (hw : swappedStores [.Subscript o ie sp] e X.env = pure none := by rfl) :
    SS X E C (.Assign [.Subscript o ie sp] e pos) (setD i q di d) := by
  obtain ⟨to, po, so⟩ := ho
  obtain ⟨ti, pi, si⟩ := hi
  obtain ⟨te, pe, se⟩ := he
  refine ⟨_, ps_asg pe (hg _ _ po pi) hs hw, fun G0 H0 G H σ ρ D I h => ?_⟩
  unfold setD at h
  refine se.useS I h fun r y G1 H1 e1 g1 I1 hr h1 => ?_
  refine so G0 H0 G1 H1 σ ρ _ I1 ?_
  cases eq : q ρ with
  | st => rw [eq] at h1; exact h1
  | ex c => rw [eq] at h1; exact fun G' H' g => h1 G' H' (I1.b.trans g)
  | ok p =>
    rw [eq] at h1
    intro v G2 H2 g2 hv
    have I2 := I1.grow g2
    have h2 : SOk X.K E C G0 H0 G2 D (bindS (di ρ) fun r2 => match r2.dat with
      | .int k => match stR k r with
        | some f => upE i p f ρ
        | none => .st
      | _ => .st) := SOk.up h1 g2.g
    refine si.useS I2 h2 fun r2 w G3 H3 e3 g3 I3 hr2 h3 => ?_
    have k2 := hr2.rp I3.s
    split at h3
    · rename_i k ek
      rw [ek] at k2
      cases k2
      cases ef : stR k r with
      | none => rw [ef] at h3; exact h3.elim
      | some f =>
        rw [ef] at h3
        obtain ⟨n, t, t', ei, em, h4⟩ := upE_out h3
        have g23 := g2.trans g3
        have g13 := g1.trans g23
        have hr3 := hr.grow g23
        obtain ⟨F, hF1, hF2⟩ := hr3.frF
        obtain ⟨a, xs, j, ev, ha, hj, I4⟩ := set_step (I.fresh g13 hF1) ei hr3.e hF2 ef em (fun v0 e0 => pathV_mono g3.h p _ _ (hv v0 e0))
        exact ⟨a, xs, k, j, ev, rfl, ha, hj, h4 σ G3 _ (Same.refl _) I4⟩
    · exact h3.elim

/-! ### x.pop(e), x.pop(), x.remove(e): of a list of known things -/
theorem erase_map {α β : Type} (f : α → β) : ∀ (l : List α) (j : Nat), (l.eraseIdx j).map f = (l.map f).eraseIdx j
  | [], j => by simp
  | a :: r, 0 => by simp
  | a :: r, j + 1 => by
    have ih := erase_map f r j
    simp [ih]
theorem pop_step {K : PySem.W.Frag} {G0 H0 G H : Hp} {σ : L2.St} {ρ : Env} {i j : Nat} {t : List PD} {d : PD} (I : EnvOk K G0 H0 G H σ ρ) (hi : ρ[i]? = some (.ow 0 t)) (hj : t[j]? = some d) : ∃ a xs y, σ.getD i none = some (.ref a) ∧ H a = some (.lst xs) ∧ xs.length = t.length ∧ xs[j]? = some y ∧ Rp K G y d ∧ EnvOk K G0 H0 G (upd H a (.lst (xs.eraseIdx j))) σ (ρ.set i (.ow 0 (t.eraseIdx j))) := by
  obtain ⟨x, x1, x2, x3, x4, x5, x6⟩ := I.r.at hi
  have x2' : (x.2 : List (V × PD)).map (fun y => y.2) = t := x2
  have hx : H x.1 = some (.lst ((x.2 : List (V × PD)).map fun y => y.1)) := x3.1
  have hk : ∀ y ∈ (x.2 : List (V × PD)), Rp K G y.1 y.2 := x3.2
  have hn : ∀ l : List (V × PD), l.Pairwise fun y z => ∀ a ∈ ATy.adr 0 y, a ∉ ATy.adr 0 z := fun l => List.pairwise_of_forall (fun _ _ a ha => nomatch ha)
  rw [← x2', List.getElem?_map] at hj
  cases e : (x.2 : List (V × PD))[j]? with
  | none => rw [e] at hj; cases hj
  | some y =>
    rw [e] at hj
    have ed : y.2 = d := by simpa using hj
    refine ⟨x.1, _, y.1, x1, hx, by rw [← x2']; simp, by rw [List.getElem?_map, e]; rfl, by rw [← ed]; exact hk y (List.mem_of_getElem? e), ?_⟩
    have := x6 ((x.1, (x.2 : List (V × PD)).eraseIdx j) : Addr × List (V × PD)) x.1 (.lst (((x.2 : List (V × PD)).map fun y => y.1).eraseIdx j)) rfl (by simp [ATy.adr]) ⟨by
      show upd H x.1 _ x.1 = some (.lst (((x.2 : List (V × PD)).eraseIdx j).map fun y => y.1))
      rw [upd_same, erase_map], fun z hz => hk z (List.mem_of_mem_eraseIdx hz)⟩ ⟨fun z _ => ⟨trivial, fun h => nomatch h⟩, hn _⟩ (fun b hb => by
      have hb' : b ∈ x.1 :: ((x.2 : List (V × PD)).eraseIdx j).flatMap (fun _ => ([] : List Addr)) := hb
      have eb : b = x.1 := by simpa using hb'
      rw [eb]
      exact .inl (by simp [ATy.adr]))
    have e3 : ATy.era 1 ((x.1, (x.2 : List (V × PD)).eraseIdx j) : Addr × List (V × PD)) = t.eraseIdx j := by
      show ((x.2 : List (V × PD)).eraseIdx j).map (fun y => y.2) = t.eraseIdx j
      rw [← x2', erase_map]
    rw [e3] at this
    exact this
abbrev Ty.l0 (u : Ty 1) : List PD := u
/-- what x.pop(k) takes: the place, the thing -/
def popAt (ρ : Env) (i : Nat) (r : R) : Option (Nat × PD × List PD) := match r.dat, ρ[i]? with
  | .int k, some (.ow 0 t) => if List.length t ≤ 100000 then match ixN (List.length t) k with
    | some j => match (Ty.l0 t)[j]? with
      | some d => some (j, d, (Ty.l0 t).eraseIdx j)
      | none => none
    | none => none else none
  | _, _ => none
theorem popAt_eq {ρ : Env} {i : Nat} {r : R} {j : Nat} {d : PD} {t' : List PD} (h : popAt ρ i r = some (j, d, t')) : ∃ (k : Int) (t : List PD), r.dat = .int k ∧ ρ[i]? = some (.ow 0 t) ∧ ixN t.length k = some j ∧ t[j]? = some d ∧ t' = t.eraseIdx j ∧ t.length ≤ 100000 := by
  unfold popAt at h
  split at h
  · rename_i k t e1 e2
    split at h
    · rename_i hl
      split at h
      · rename_i j' e3
        split at h
        · rename_i d' e4
          cases h
          exact ⟨k, t, e1, e2, e3, e4, rfl, hl⟩
        · cases h
      · cases h
    · cases h
  · cases h
/-- s = x.pop(e) -/
def asgPopD (s i : Nat) (e : ED) : SD := fun ρ => bindS (noX (e ρ)) fun r => match popAt ρ i r with
  | some (_, d, t') => .nx ((ρ.set i (.ow 0 t')).set s (.im d))
  | none => .st
theorem ss_asgPop {x y : Str} {e : Expr} {d : ED} {yp xp apos cpos pos : Pos} (s i : Nat) (hN : X.N.Nodup) (hy : Loc X.env.scope y) (he : SE X E C e d) (hs1 : X.N[s]? = some y := by rfl) (hf : X.fn y = true ∨ X.env.scope.names.lookup y = some .local := by first | exact .inl rfl | exact .inr rfl | assumption)
    (hNi : X.N[i]? = some x := by rfl) (hv : Vis X.env.scope x := by first | exact Or.inl rfl | exact Or.inr (Or.inl rfl) | exact Or.inr (Or.inr rfl)) (hd : (x == ("__debug__" : Str)) = false := by decide) (hcd : (x == ("__classdict__" : Str)) = false := by decide)
    (hst : starEach [e] X.env = (false, eval e X.env) :: starEach [] X.env := by rfl)
    (hp : ∀ to t, PE X (.Name x xp) to → PA X [e] t → PE X (.Call (.Attribute (.Name x xp) "pop" apos) [e] [] cpos) (tBM X.K "list" rPopAt to t)) (hs : swapsWith (.Call (.Attribute (.Name x xp) "pop" apos) [e] [] cpos) (some (.Name y yp)) pos.line X.env = pure false := by rfl) :
    SS X E C (.Assign [.Name y yp] (.Call (.Attribute (.Name x xp) "pop" apos) [e] [] cpos) pos) (asgPopD s i d) := by
  obtain ⟨te, pe, se⟩ := he
  refine ⟨_, ps_set hN hs1 hy (hp _ _ (pe_var hNi hv hd hcd) (pa_cons pe pa_nil hst)) hs hf, fun G0 H0 G H σ ρ D I h => ?_⟩
  unfold asgPopD at h
  -- what stands in x
  have ow : ∃ r j dd t', noX (d ρ) = .ok r ∧ popAt ρ i r = some (j, dd, t') := by
    cases ed : noX (d ρ) with
    | st => rw [ed] at h; exact h.elim
    | ex c => cases e2 : d ρ <;> rw [e2] at ed <;> cases ed
    | ok r =>
      rw [ed] at h
      cases ep : popAt ρ i r with
      | none => simp only [bindS, ep] at h; exact h.elim
      | some w => obtain ⟨j, dd, t'⟩ := w; exact ⟨r, j, dd, t', rfl, ep⟩
  obtain ⟨r, j, dd, t', ed, ep⟩ := ow
  obtain ⟨k, t, k1, k2, k3, k4, k5, k6⟩ := popAt_eq ep
  obtain ⟨a0, xs0, y0, b1, b2, _⟩ := pop_step I k2 k4
  refine ⟨_, getD_some b1, .inl ⟨rfl, _, SqL.of b2⟩, ?_⟩
  show te σ H _
  refine (sim_nx se).useS I h fun r' v G1 H1 e1 g1 I1 hr h1 => ?_
  have er : r' = r := by rw [ed] at e1; cases e1; rfl
  subst er
  have kv := hr.rp I1.s
  rw [k1] at kv
  cases kv
  obtain ⟨a, xs, w, c1, c2, c3, c4, c5, c6⟩ := pop_step I1 k2 k4
  rw [b1] at c1
  cases c1
  obtain ⟨q1, q2, q3, q4⟩ := ixN_seq k3
  refine ⟨a0, xs, k, j, w, rfl, rfl, c2, by omega, by omega, by rw [c3]; exact q1, c4, ?_⟩
  simp only [ep] at h1
  rw [k5] at h1
  exact h1 _ G1 _ (Same.refl _) (c6.setIm s c5)
/-- y.append(x.pop(e)), y and x two owned lists of known things -/
def appPopD (o i : Nat) (e : ED) : SD := fun ρ => bindS (noX (e ρ)) fun r => match popAt ρ i r with
  | some (_, d, t') => match (ρ.set i (.ow 0 t'))[o]? with
    | some (.ow 0 u) => if List.length u ≤ 100000 ∧ o ≠ i then .nx ((ρ.set i (.ow 0 t')).set o (.ow 0 ((Ty.l0 u) ++ [d]))) else .st
    | _ => .st
  | none => .st
theorem ss_appPop {x y : Str} {e : Expr} {d : ED} {yp xp apos cpos apos2 cpos2 pos : Pos} (o i : Nat) (he : SE X E C e d) (hNo : X.N[o]? = some y := by rfl) (hvo : Vis X.env.scope y := by first | exact Or.inl rfl | exact Or.inr (Or.inl rfl) | exact Or.inr (Or.inr rfl)) (hdo : (y == ("__debug__" : Str)) = false := by decide) (hcdo : (y == ("__classdict__" : Str)) = false := by decide)
    (hNi : X.N[i]? = some x := by rfl) (hv : Vis X.env.scope x := by first | exact Or.inl rfl | exact Or.inr (Or.inl rfl) | exact Or.inr (Or.inr rfl)) (hd : (x == ("__debug__" : Str)) = false := by decide) (hcd : (x == ("__classdict__" : Str)) = false := by decide)
    (hst : starEach [e] X.env = (false, eval e X.env) :: starEach [] X.env := by rfl)
    (hst2 : starEach [.Call (.Attribute (.Name x xp) "pop" apos) [e] [] cpos] X.env = (false, eval (.Call (.Attribute (.Name x xp) "pop" apos) [e] [] cpos) X.env) :: starEach [] X.env := by rfl)
    (hp : ∀ to t, PE X (.Name x xp) to → PA X [e] t → PE X (.Call (.Attribute (.Name x xp) "pop" apos) [e] [] cpos) (tBM X.K "list" rPopAt to t))
    (hp2 : ∀ to t, PE X (.Name y yp) to → PA X [.Call (.Attribute (.Name x xp) "pop" apos) [e] [] cpos] t → PE X (.Call (.Attribute (.Name y yp) "append" apos2) [.Call (.Attribute (.Name x xp) "pop" apos) [e] [] cpos] [] cpos2) (tBM X.K "list" rAppend to t))
    (hs : swapsWith (.Call (.Attribute (.Name y yp) "append" apos2) [.Call (.Attribute (.Name x xp) "pop" apos) [e] [] cpos] [] cpos2) none pos.line X.env = pure false := by rfl) :
    SS X E C (.Expr (.Call (.Attribute (.Name y yp) "append" apos2) [.Call (.Attribute (.Name x xp) "pop" apos) [e] [] cpos] [] cpos2) pos) (appPopD o i d) := by
  obtain ⟨te, pe, se⟩ := he
  refine ⟨_, ps_expr (hp2 _ _ (pe_var hNo hvo hdo hcdo) (pa_cons (hp _ _ (pe_var hNi hv hd hcd) (pa_cons pe pa_nil hst)) pa_nil hst2)) hs, fun G0 H0 G H σ ρ D I h => ?_⟩
  unfold appPopD at h
  have ow : ∃ r j dd t', noX (d ρ) = .ok r ∧ popAt ρ i r = some (j, dd, t') := by
    cases ed : noX (d ρ) with
    | st => rw [ed] at h; exact h.elim
    | ex c => cases e2 : d ρ <;> rw [e2] at ed <;> cases ed
    | ok r =>
      rw [ed] at h
      cases ep : popAt ρ i r with
      | none => simp only [bindS, ep] at h; exact h.elim
      | some w => obtain ⟨j, dd, t'⟩ := w; exact ⟨r, j, dd, t', rfl, ep⟩
  obtain ⟨r, j, dd, t', ed, ep⟩ := ow
  obtain ⟨k, t, k1, k2, k3, k4, k5, k6⟩ := popAt_eq ep
  have ow2 : ∃ u, (ρ.set i (.ow 0 t'))[o]? = some (.ow 0 u) ∧ List.length u ≤ 100000 ∧ o ≠ i ∧ SOk X.K E C G0 H0 G D (.nx ((ρ.set i (.ow 0 t')).set o (.ow 0 ((Ty.l0 u) ++ [dd])))) := by
    have h' := h
    rw [ed] at h'
    simp only [bindS, ep] at h'
    split at h'
    · rename_i u eu
      split at h'
      · rename_i c
        exact ⟨u, eu, c.1, c.2, h'⟩
      · exact h'.elim
    · exact h'.elim
  obtain ⟨u, u1, u2, u3, hfin⟩ := ow2
  have uρ : ρ[o]? = some (.ow 0 u) := by rw [List.getElem?_set_ne (Ne.symm u3)] at u1; exact u1
  obtain ⟨z, z1, z2, z3, z4, z5, z6⟩ := I.r.at uρ
  obtain ⟨a0, xs0, y0, b1, b2, _⟩ := pop_step I k2 k4
  refine ⟨_, getD_some z1, .inl ⟨rfl, _, SqL.of z3.1⟩, ?_⟩
  refine ⟨_, getD_some b1, .inl ⟨rfl, _, SqL.of b2⟩, ?_⟩
  show te σ H _
  refine (sim_nx se).useS I h fun r' v G1 H1 e1 g1 I1 hr h1 => ?_
  have er : r' = r := by rw [ed] at e1; cases e1; rfl
  subst er
  have kv := hr.rp I1.s
  rw [k1] at kv
  cases kv
  obtain ⟨a, xs, w, c1, c2, c3, c4, c5, c6⟩ := pop_step I1 k2 k4
  rw [b1] at c1
  cases c1
  obtain ⟨q1, q2, q3, q4⟩ := ixN_seq k3
  refine ⟨a0, xs, k, j, w, rfl, rfl, c2, by omega, by omega, by rw [c3]; exact q1, c4, ?_⟩
  rw [← k5] at c6
  obtain ⟨a2, xs2, ev2, ha2, hl2, I3⟩ := app_step (r := .im dd) (f := apF dd) (p := []) (n := 0) (t' := ((Ty.l0 u) ++ [dd] : List PD)) c6.r u1 (show ROk X.K hpE G1 _ (.im dd) w from c5) (fun m u e => by cases e) rfl (by show apF dd 0 u = _; simp only [apF]; rw [if_pos u2]; rfl) (fun v0 e0 => by rw [z1] at e0; cases e0; rfl)
  exact ⟨a2, xs2, w, ev2, rfl, ha2, hl2, hfin _ G1 _ g1.g I3⟩
/-- x.remove(e), x an owned list of ints -/
def remD (i : Nat) (e : ED) : SD := fun ρ => bindS (noX (e ρ)) fun r => match r.dat, ρ[i]? with
  | .int k, some (.ow 0 t) => match intsOf t with
    | some ns => if k ∈ ns then .nx (ρ.set i (.ow 0 ((ns.erase k).map PyData.int))) else .st
    | none => .st
  | _, _ => .st
theorem erase_ix : ∀ (ns : List Int) (k : Int), k ∈ ns → ∃ j, ns[j]? = some k ∧ (∀ m, m < j → ns[m]? ≠ some k) ∧ ns.erase k = ns.eraseIdx j
  | [], k, h => nomatch h
  | n :: ns, k, h => by
    by_cases c : n = k
    · subst c
      exact ⟨0, rfl, fun m hm => absurd hm (Nat.not_lt_zero _), by simp⟩
    · have hm : k ∈ ns := by
        rcases List.mem_cons.mp h with e | e
        · exact absurd e.symm c
        · exact e
      obtain ⟨j, j1, j2, j3⟩ := erase_ix ns k hm
      refine ⟨j + 1, by simpa using j1, fun m hm => ?_, ?_⟩
      · cases m with
        | zero => simpa using c
        | succ m => simpa using j2 m (by omega)
      · rw [List.erase_cons_tail (by simpa using c), j3]
        rfl
theorem ss_rem {x : Str} {e : Expr} {d : ED} {xp apos cpos pos : Pos} (i : Nat) (he : SE X E C e d) (hNi : X.N[i]? = some x := by rfl) (hv : Vis X.env.scope x := by first | exact Or.inl rfl | exact Or.inr (Or.inl rfl) | exact Or.inr (Or.inr rfl)) (hd : (x == ("__debug__" : Str)) = false := by decide) (hcd : (x == ("__classdict__" : Str)) = false := by decide)
    (hst : starEach [e] X.env = (false, eval e X.env) :: starEach [] X.env := by rfl)
    (hp : ∀ to t, PE X (.Name x xp) to → PA X [e] t → PE X (.Call (.Attribute (.Name x xp) "remove" apos) [e] [] cpos) (tBM X.K "list" rRemI to t)) (hs : swapsWith (.Call (.Attribute (.Name x xp) "remove" apos) [e] [] cpos) none pos.line X.env = pure false := by rfl) :
    SS X E C (.Expr (.Call (.Attribute (.Name x xp) "remove" apos) [e] [] cpos) pos) (remD i d) := by
  obtain ⟨te, pe, se⟩ := he
  refine ⟨_, ps_expr (hp _ _ (pe_var hNi hv hd hcd) (pa_cons pe pa_nil hst)) hs, fun G0 H0 G H σ ρ D I h => ?_⟩
  unfold remD at h
  have ow : ∃ (r : R) (k : Int) (ns : List Int), noX (d ρ) = .ok r ∧ r.dat = .int k ∧ ρ[i]? = some (.ow 0 (ns.map PyData.int)) ∧ k ∈ ns ∧ SOk X.K E C G0 H0 G D (.nx (ρ.set i (.ow 0 ((ns.erase k).map PyData.int)))) := by
    cases ed : noX (d ρ) with
    | st => rw [ed] at h; exact h.elim
    | ex c => cases e2 : d ρ <;> rw [e2] at ed <;> cases ed
    | ok r =>
      rw [ed] at h
      simp only [bindS] at h
      split at h
      · rename_i k t e1 e2
        split at h
        · rename_i ns e3
          split at h
          · rename_i c
            exact ⟨r, k, ns, rfl, e1, e2.trans (congrArg (fun l : List PD => some (Ent.ow 0 l)) (intsOf_eq (ds := t) e3)), c, h⟩
          · exact h.elim
        · exact h.elim
      · exact h.elim
  obtain ⟨r, k, ns, ed, ek, ei, hk, hfin⟩ := ow
  obtain ⟨j, j1, j2, j3⟩ := erase_ix ns k hk
  have jd : (ns.map PyData.int)[j]? = some (.int k) := by rw [List.getElem?_map, j1]; rfl
  obtain ⟨a0, xs0, y0, b1, b2, _⟩ := pop_step I ei jd
  refine ⟨_, getD_some b1, .inl ⟨rfl, _, SqL.of b2⟩, ?_⟩
  show te σ H _
  refine (sim_nx se).useS I h fun r' v G1 H1 e1 g1 I1 hr h1 => ?_
  have er : r' = r := by rw [ed] at e1; cases e1; rfl
  subst er
  have kv := hr.rp I1.s
  rw [ek] at kv
  cases kv
  obtain ⟨z, z1, z2, z3, z4, z5, z6⟩ := I1.r.at ei
  obtain ⟨a, xs, w, c1, c2, c3, c4, c5, c6⟩ := pop_step I1 ei jd
  rw [b1] at c1
  cases c1
  have ex : xs = ns.map V.int := by
    have ok2 : RpA X.K G1 xs (ns.map PyData.int) := by
      obtain ⟨a, vs, q1, q2, q3⟩ := ROk.kids (r := .ro 0 (ns.map PyData.int)) (H0 := hpE) I1.s ⟨z, z2, rfl, z3⟩ rfl
      rw [b1] at z1
      have e0 : ATy.val 1 z = V.ref a0 := (Option.some.inj z1).symm
      rw [q1] at e0
      cases e0
      rw [c2] at q2
      cases q2
      exact q3
    exact ok2.ints
  subst ex
  refine ⟨a0, ns, k, j, rfl, rfl, c2, j1, j2, ?_⟩
  have e9 : (ns.map PyData.int).eraseIdx j = (ns.erase k).map PyData.int := by rw [j3, erase_map]
  have e10 : (ns.map V.int).eraseIdx j = (ns.erase k).map V.int := by rw [j3, erase_map]
  rw [e10] at c6
  have c7 := Eq.mp (congrArg (fun l : List PD => EnvOk X.K G0 H0 G1 (upd H1 a0 (.lst ((ns.erase k).map V.int))) σ (ρ.set i (.ow 0 l))) e9) c6
  rw [← j3]
  exact hfin σ G1 _ g1.g c7
end
end Z

/-! ## ZC -/
set_option Elab.async false
set_option linter.all false
set_option maxRecDepth 100000
set_option maxHeartbeats 2000000
namespace Z
open PySem PySem.Spec PyProof.Rows L2
theorem tgOf_okH {K : PySem.W.Frag} {G0 H0 G Hh H : Hp} {Q : L2.St → Hp → Prop} {σ : L2.St} {ρ : Env} {v : V} {d : PD} (k : Tg) (I : EnvOk K G0 H0 G Hh σ ρ) (s : Same G H) (r : Rp K G v d) (h : match bindT k d ρ with
    | some ρ' => ∀ σ', EnvOk K G0 H0 G Hh σ' ρ' → (∀ us, (∀ i ∈ slotsT k, i ∈ us) → wipe σ' us = wipe σ us) → Q σ' H
    | none => False) : tgOf K k v σ H Q := by
  cases k with
  | nm i => exact h _ (I.setIm i r) fun us hu => wipe_set (hu i List.mem_cons_self)
  | tp is =>
    unfold bindT at h
    cases d with
    | tuple ds =>
      by_cases c : ds.length = is.length
      · simp only [if_pos c] at h
        cases r with
        | tup h1 h2 =>
          refine ⟨_, _, rfl, SqT.of (s _ _ h1), by rw [h2.length]; exact c, ?_⟩
          have key : ∀ (is : List Nat) (σ : L2.St) (ρ : Env) (vs : List V) (ds : List PD) (Q : L2.St → Hp → Prop), EnvOk K G0 H0 G Hh σ ρ → RpA K G vs ds → ds.length = is.length →
              (∀ σ', EnvOk K G0 H0 G Hh σ' (setAll ρ (is.zip ds)) → (∀ us, (∀ i ∈ is, i ∈ us) → wipe σ' us = wipe σ us) → Q σ' H) → gsOf is vs σ H Q := by
            intro is
            induction is with
            | nil =>
              intro σ ρ vs ds Q I r hl h
              cases ds with
              | nil => cases r; exact ⟨rfl, h σ I fun _ _ => rfl⟩
              | cons d ds => simp at hl
            | cons i is ih =>
              intro σ ρ vs ds Q I r hl h
              cases ds with
              | nil => simp at hl
              | cons d ds =>
                cases r with
                | cons h1 h2 =>
                  refine ⟨_, _, rfl, ih _ (ρ.set i (.im d)) _ ds _ (I.setIm i h1) h2 (by simpa using hl) fun σ' I' hw => h σ' I' fun us hu => ?_⟩
                  rw [hw us fun j hj => hu j (List.mem_cons_of_mem _ hj)]
                  exact wipe_set (hu i List.mem_cons_self)
          exact key is σ ρ _ _ Q I h2 c h
      · simp only [if_neg c] at h
    | _ => exact h.elim
theorem wipe_wipe : ∀ (us : List Nat) (σ : L2.St), wipe (wipe σ us) us = wipe σ us := by
  intro us
  induction us with
  | nil => intro σ; rfl
  | cons u us ih =>
    intro σ
    show (wipe ((wipe σ us).set u none) us).set u none = (wipe σ us).set u none
    by_cases hm : u ∈ us
    · rw [wipe_set hm, ih]
    · have key2 : ∀ (vs : List Nat) (σ : L2.St) (o : Option V) (i : Nat), i ∉ vs → wipe (σ.set i o) vs = (wipe σ vs).set i o := by
        intro vs
        induction vs with
        | nil => intro σ o i _; rfl
        | cons u us ih =>
          intro σ o i hn
          simp only [List.mem_cons, not_or] at hn
          show (wipe (σ.set i o) us).set u none = ((wipe σ us).set u none).set i o
          rw [ih σ o i hn.2, List.set_comm]
          exact fun e => hn.1 e
      rw [key2 us _ none u hm, ih, List.set_set]
/-- the loop that fills the list at D -/
theorem lc_loop {K : PySem.W.Frag} {C : CM} {J : It} {ds : List PD} {k : Tg} {tt : TT} {t : TD} {te : TE} {e : ED} {vs : List Nat} {G0 H0 Gb Hb Gs H : Hp} {σ : L2.St} {ρ : Env} {D : Addr} {rest out : List PD} {acc : List V} {Fin : Hp → Prop}
    (hv : ∀ i ∈ slotsT k, i ∈ vs) (st : SimT K E0 C tt t) (se : SimE K E0 C te e) (Ib : EnvOk K G0 H0 Gb Hb σ ρ) (hb : Hb D = none) (wk : Walks K J Gb ds (fun H2 => Same Hb H2)) (hr : lcL k t e (wipeE ρ vs) ds = .ok rest)
    (g : Grow Gb Hb Gs (hide H D)) (nG : Gs D = none) (hacc : H D = some (.lst acc)) (rv : RpA K Gs acc out) (hlen : out.length + rest.length ≤ 100000)
    (fin : ∀ G' H' acc', Grow Gb Hb G' (hide H' D) → G' D = none → H' D = some (.lst acc') → RpA K G' acc' (out ++ rest) → Fin H') :
    ∃ W : Nat → Nat → Hp → Prop, (∃ m, W 0 m H) ∧ ∀ i m H, W i m H → (J.stop i H ∧ Fin H) ∨ (J.go i H ∧ ∃ Nx : Hp → Prop, (∀ H', Nx H' → ∃ m', m' < m ∧ W (i + 1) m' H') ∧ ∀ x H', J.yld i H x H' → tgOf K k x (wipe σ vs) H' fun σ2 H2 => wipe σ2 vs = wipe σ vs ∧ tt σ2 H2 fun b H3 =>
      if b = true then te σ2 H3 fun y H4 => ∃ acc, H4 D = some (.lst acc) ∧ acc.length < sizeLine ∧ Nx (upd H4 D (.lst (acc ++ [y]))) else Nx H3) := by
  refine ⟨fun i m H2 => ∃ G2 acc' out' rest', Grow Gb Hb G2 (hide H2 D) ∧ G2 D = none ∧ H2 D = some (.lst acc') ∧ RpA K G2 acc' out' ∧ m = ds.length - i ∧ i ≤ ds.length ∧ lcL k t e (wipeE ρ vs) (ds.drop i) = .ok rest' ∧ out ++ rest = out' ++ rest',
    ⟨ds.length, Gs, acc, out, rest, g, nG, hacc, rv, rfl, Nat.zero_le _, hr, rfl⟩, ?_⟩
  rintro i m H2 ⟨G2, acc, out', rest', g2, nG, hacc, rv, rfl, hi, hr, hy⟩
  have gu : Grow G2 (hide H2 D) G2 H2 := Grow.unhide g2.s
  have g12 : Grow Gb Hb G2 H2 := g2.trans gu
  have I2 := Ib.grow g12
  by_cases hlt : i < ds.length
  · have hd : ds[i]? = some ds[i] := List.getElem?_eq_getElem hlt
    obtain ⟨go, yl⟩ := (wk i H2 g12.h).2 _ hd
    refine .inr ⟨go, fun H3 => ∃ G3 acc' out' rest', Grow Gb Hb G3 (hide H3 D) ∧ G3 D = none ∧ H3 D = some (.lst acc') ∧ RpA K G3 acc' out' ∧ lcL k t e (wipeE ρ vs) (ds.drop (i + 1)) = .ok rest' ∧ out ++ rest = out' ++ rest', fun H3 ⟨G3, acc, out, rest, a1, a2, a3, a4, a5, a6⟩ => ⟨ds.length - (i + 1), by omega, G3, acc, out, rest, a1, a2, a3, a4, rfl, hlt, a5, a6⟩, fun v H3 hyl => ?_⟩
    obtain ⟨G3, g3, rd⟩ := yl v H3 hyl G2 g12.g I2.s
    have I3 := I2.grow g3
    refine tgOf_ok k (I3.wipe vs) rd ?_
    rw [List.drop_eq_getElem_cons hlt] at hr
    unfold lcL at hr
    cases eb : bindT k ds[i] (wipeE ρ vs) with
    | none => simp only [eb] at hr; cases hr
    | some ρ1 =>
      simp only [eb] at hr
      intro σ3 I4 hw
      refine ⟨by rw [hw vs hv, wipe_wipe], ?_⟩
      refine st G0 H0 G3 H3 σ3 ρ1 _ I4 ?_
      cases et : t ρ1 with
      | ex c => simp [et, noX, Out.bind] at hr
      | st => simp [et, noX, Out.bind] at hr
      | ok b =>
        simp only [et, noX, Out.bind] at hr
        intro G4 H4 g4
        have I5 := I4.grow g4
        have g24 := g3.trans g4
        cases b with
        | false =>
          obtain ⟨r1, r2⟩ := g2.rehide g24 hb hacc trivial nG
          exact ⟨G4, acc, out', rest', r1, r2, g24.h _ _ hacc, rv.up g24.g, hr, hy⟩
        | true =>
          simp only [if_true] at hr
          refine se G0 H0 G4 H4 σ3 ρ1 _ I5 ?_
          cases ee : e ρ1 with
          | ex c => simp [ee] at hr
          | st => simp [ee] at hr
          | ok r =>
            simp only [ee] at hr
            have fin2 : ∀ (y : PD) (v : V) G5 H5, r.fz = .im y → Grow G4 H4 G5 H5 → Rp K G5 v y → ∃ acc, H5 D = some (.lst acc) ∧ acc.length < sizeLine ∧ ∃ G3 acc' out' rest', Grow Gb Hb G3 (hide (upd H5 D (.lst (acc ++ [v]))) D) ∧ G3 D = none ∧ (upd H5 D (.lst (acc ++ [v]))) D = some (.lst acc') ∧ RpA K G3 acc' out' ∧ lcL k t e (wipeE ρ vs) (ds.drop (i + 1)) = .ok rest' ∧ out ++ rest = out' ++ rest' := by
              intro y v G5 H5 er g5 ry
              simp only [er] at hr
              have g25 := g24.trans g5
              obtain ⟨r1, r2⟩ := g2.rehide g25 hb hacc trivial nG
              cases el : lcL k t e (wipeE ρ vs) (ds.drop (i + 1)) with
              | ex c => simp [el] at hr
              | st => simp [el] at hr
              | ok rest2 =>
                simp only [el] at hr
                have er2 : y :: rest2 = rest' := by injection hr
                have hl := rv.length
                have hl2 : out'.length ≤ out.length + rest.length := by rw [← List.length_append, hy]; simp
                refine ⟨acc, g25.h _ _ hacc, lt_line (by omega), G5, acc ++ [v], out' ++ [y], rest2, by rw [hide_upd]; exact r1, r2, upd_same, (rv.up g25.g).snoc ry, rfl, by rw [hy, ← er2]; simp⟩
            intro v G5 H5 g5 hr5
            cases r with
            | im y => exact fin2 y v G5 H5 rfl g5 hr5
            | ro n u => simp [R.fz] at hr
            | fr n u =>
              obtain ⟨G6, s6, g6, r6⟩ := hr5.freeze g5.s g5
              exact fin2 _ v G6 H5 rfl g6 r6
  · have e2 : i = ds.length := by omega
    refine .inl ⟨(wk i H2 g12.h).1 (by omega), ?_⟩
    rw [e2, List.drop_length] at hr
    have e3 : rest' = [] := by cases hr; rfl
    subst e3
    rw [List.append_nil] at hy
    rw [← hy] at rv
    exact fin G2 H2 acc g2 nG hacc rv

/-! ### [e for a in s1 if t1 for b in s2 if t2] -/
def lc2L (k1 : Tg) (t1 : TD) (s2 : LD) (k2 : Tg) (t2 : TD) (e : ED) (vs1 : List Nat) (ρ : Env) : List PD → Out (List PD)
  | [] => .ok []
  | d :: ds => match bindT k1 d ρ with
    | none => .st
    | some ρ1 => (noX (t1 ρ1)).bind fun c => if c = true then (noX (s2 ρ1)).bind fun ds2 => (lcL k2 t2 e (wipeE ρ1 vs1) ds2).bind fun ys => (lc2L k1 t1 s2 k2 t2 e vs1 ρ ds).bind fun zs => .ok (ys ++ zs)
      else lc2L k1 t1 s2 k2 t2 e vs1 ρ ds
def lc2D (s : LD) (vs : List Nat) (k1 : Tg) (t1 : TD) (s2 : LD) (vs1 : List Nat) (k2 : Tg) (t2 : TD) (e : ED) : ED := fun ρ => (s ρ).bind fun ds => (noX (lc2L k1 t1 s2 k2 t2 e vs1 (wipeE ρ vs) ds)).bind fun ys => if ys.length ≤ 100000 then .ok (.fr 0 ys) else .st
section
variable {X : Cx} {E : XK} {C : CM}
theorem blk_i {scope : Scope} {tg e : Expr} {s : LD} (h : ∀ b : Bk, SI (b.x X scope) E C tg e s) : ∃ wi, (∀ b : Bk, PI (b.x X scope) tg e wi) ∧ ∀ G0 H0 G H σ ρ (Q : It → Hp → Prop), EnvOk X.K G0 H0 G H σ ρ → (match s ρ with
    | .ok ds => ∀ J G' H', Grow G H G' H' → Walks X.K J G' ds (fun H2 => Same G' H2) → Q J H'
    | .ex c => ∀ G' H', Grow G H G' H' → E (C c) none H'
    | .st => False) → wi σ H Q := by
  let te : Bk → TI := fun b => (h b).p.choose
  have h1 : ∀ b, PI (b.x X scope) tg e (te b) := fun b => (h b).p.choose_spec.1
  have h2 := fun b => (h b).p.choose_spec.2
  exact ⟨fun σ H Q => ∀ b, te b σ H Q, fun b => ⟨fun pins s σ H Q I q => (h1 b).run pins s σ H Q I (q b)⟩, fun G0 H0 G H σ ρ Q I q b => h2 b G0 H0 G H σ ρ Q I q⟩
theorem sim_lc2 {K : PySem.W.Frag} {wi wi1 : TI} {s s2 : LD} {k1 k2 : Tg} {tt1 tt2 : TT} {t1 t2 : TD} {te : TE} {e : ED} {vs vs1 : List Nat} (hv : ∀ i ∈ slotsT k1, i ∈ vs) (hv1 : ∀ i ∈ slotsT k2, i ∈ vs1)
    (sw : ∀ G0 H0 G H σ ρ (Q : It → Hp → Prop), EnvOk K G0 H0 G H σ ρ → (match s ρ with
      | .ok ds => ∀ J G' H', Grow G H G' H' → Walks K J G' ds (fun H2 => Same H' H2) → Q J H'
      | .ex c => ∀ G' H', Grow G H G' H' → E (C c) none H'
      | .st => False) → wi σ H Q)
    (sw1 : ∀ G0 H0 G H σ ρ (Q : It → Hp → Prop), EnvOk K G0 H0 G H σ ρ → (match s2 ρ with
      | .ok ds => ∀ J G' H', Grow G H G' H' → Walks K J G' ds (fun H2 => Same G' H2) → Q J H'
      | .ex c => ∀ G' H', Grow G H G' H' → E0 (C c) none H'
      | .st => False) → wi1 σ H Q)
    (st1 : SimT K E0 C tt1 t1) (st2 : SimT K E0 C tt2 t2) (se : SimE K E0 C te e) : SimE K E C (tLc2 wi (tgOf K k1) tt1 wi1 (tgOf K k2) tt2 te vs vs1) (lc2D s vs k1 t1 s2 vs1 k2 t2 e) := by
  intro G0 H0 G H σ ρ Q I h
  unfold lc2D at h
  refine sw G0 H0 G H σ ρ _ I ?_
  cases es : s ρ with
  | st => rw [es] at h; exact h
  | ex c => rw [es] at h; exact h
  | ok ds =>
    rw [es] at h
    intro J G1 H1 g1 wk D hD
    have I1 := I.grow g1
    have q : OOk K E C G H Q ((noX (lc2L k1 t1 s2 k2 t2 e vs1 (wipeE ρ vs) ds)).bind fun ys => if ys.length ≤ 100000 then .ok (.fr 0 ys) else .st) := h
    obtain ⟨ys, ey, hlen, hfin⟩ : ∃ ys, lc2L k1 t1 s2 k2 t2 e vs1 (wipeE ρ vs) ds = .ok ys ∧ ys.length ≤ 100000 ∧ OOk K E C G H Q (.ok (.fr 0 ys)) := by
      cases ey : lc2L k1 t1 s2 k2 t2 e vs1 (wipeE ρ vs) ds with
      | ok ys =>
        rw [ey] at q
        by_cases c : ys.length ≤ 100000
        · exact ⟨ys, rfl, c, by have q' : OOk K E C G H Q (if ys.length ≤ 100000 then .ok (.fr 0 ys) else .st) := q; rw [if_pos c] at q'; exact q'⟩
        · have q' : OOk K E C G H Q (if ys.length ≤ 100000 then .ok (.fr 0 ys) else .st) := q
          rw [if_neg c] at q'
          exact q'.elim
      | ex c => rw [ey] at q; exact q.elim
      | st => rw [ey] at q; exact q.elim
    have s1 : Same H1 (hide (upd H1 D (.lst [])) D) := by rw [hide_upd]; exact same_to_hide (Same.refl _) hD
    have gs : Grow G1 H1 G1 (hide (upd H1 D (.lst [])) D) := ⟨Same.refl _, s1, I1.s.trans s1, fun _ _ _ _ h => h⟩
    refine ⟨fun i m H2 => ∃ G2 acc out rest, Grow G1 H1 G2 (hide H2 D) ∧ G2 D = none ∧ H2 D = some (.lst acc) ∧ RpA K G2 acc out ∧ m = ds.length - i ∧ i ≤ ds.length ∧ lc2L k1 t1 s2 k2 t2 e vs1 (wipeE ρ vs) (ds.drop i) = .ok rest ∧ ys = out ++ rest,
      ⟨ds.length, G1, [], [], ys, gs, I1.s.free hD, upd_same, .nil, rfl, Nat.zero_le _, ey, rfl⟩, ?_⟩
    rintro i m H2 ⟨G2, acc, out, rest, g2, nG, hacc, rv, rfl, hi, hr, hy⟩
    have gu : Grow G2 (hide H2 D) G2 H2 := Grow.unhide g2.s
    have g12 : Grow G1 H1 G2 H2 := g2.trans gu
    have I2 := I1.grow g12
    by_cases hlt : i < ds.length
    · have hd : ds[i]? = some ds[i] := List.getElem?_eq_getElem hlt
      obtain ⟨go, yl⟩ := (wk i H2 g12.h).2 _ hd
      refine .inr ⟨go, fun H3 => ∃ G3 acc out rest, Grow G1 H1 G3 (hide H3 D) ∧ G3 D = none ∧ H3 D = some (.lst acc) ∧ RpA K G3 acc out ∧ lc2L k1 t1 s2 k2 t2 e vs1 (wipeE ρ vs) (ds.drop (i + 1)) = .ok rest ∧ ys = out ++ rest, fun H3 ⟨G3, acc, out, rest, a1, a2, a3, a4, a5, a6⟩ => ⟨ds.length - (i + 1), by omega, G3, acc, out, rest, a1, a2, a3, a4, rfl, hlt, a5, a6⟩, fun v H3 hyl => ?_⟩
      obtain ⟨G3, g3, rd⟩ := yl v H3 hyl G2 g12.g I2.s
      obtain ⟨r3, nG3⟩ := g2.rehide g3 hD hacc trivial nG
      have I3 : EnvOk K G0 H0 G3 (hide H3 D) σ ρ := I1.grow r3
      refine tgOf_okH k1 (I3.wipe vs) (g3.s) rd ?_
      rw [List.drop_eq_getElem_cons hlt] at hr
      unfold lc2L at hr
      cases eb : bindT k1 ds[i] (wipeE ρ vs) with
      | none => simp only [eb] at hr; cases hr
      | some ρ1 =>
        simp only [eb] at hr
        intro σ3 I4 hw
        refine ⟨by rw [hw vs hv, wipe_wipe], ?_⟩
        have acc3 := g3.h _ _ hacc
        have gu3 : Grow G3 (hide H3 D) G3 H3 := Grow.unhide I4.s
        refine st1 G0 H0 G3 H3 σ3 ρ1 _ (I4.grow gu3) ?_
        cases et : t1 ρ1 with
        | ex c => simp [et, noX, Out.bind] at hr
        | st => simp [et, noX, Out.bind] at hr
        | ok b =>
          simp only [et, noX, Out.bind] at hr
          intro G4 H4 g4
          obtain ⟨r4, nG4⟩ := (Grow.refl I4.s).rehide g4 hide_same acc3 trivial nG3
          have I5 := I4.grow r4
          have acc4 := g4.h _ _ acc3
          cases b with
          | false => exact ⟨G4, acc, out, rest, r3.trans r4, nG4, acc4, rv.up (g3.g.trans g4.g), hr, hy⟩
          | true =>
            simp only [if_true] at hr
            have gu4 : Grow G4 (hide H4 D) G4 H4 := Grow.unhide I5.s
            refine sw1 G0 H0 G4 H4 σ3 ρ1 _ (I5.grow gu4) ?_
            cases e2 : s2 ρ1 with
            | ex c => simp [e2] at hr
            | st => simp [e2] at hr
            | ok ds2 =>
              simp only [e2] at hr
              intro J1 G5 H5 g5 wk1
              obtain ⟨r5, nG5⟩ := (Grow.refl I5.s).rehide g5 hide_same acc4 trivial nG4
              have I6 := I5.grow r5
              have acc5 := g5.h _ _ acc4
              cases el : lcL k2 t2 e (wipeE ρ1 vs1) ds2 with
              | ex c => simp [el] at hr
              | st => simp [el] at hr
              | ok ys1 =>
                simp only [el] at hr
                cases er : lc2L k1 t1 s2 k2 t2 e vs1 (wipeE ρ vs) (ds.drop (i + 1)) with
                | ex c => simp [er] at hr
                | st => simp [er] at hr
                | ok zs =>
                  simp only [er] at hr
                  have e3 : ys1 ++ zs = rest := by injection hr
                  have hle : out.length + ys1.length ≤ 100000 := by
                    have : ys.length = out.length + (ys1.length + zs.length) := by rw [hy, ← e3]; simp
                    omega
                  have rr := (r3.trans r4).trans r5
                  refine lc_loop hv1 st2 se I6 hide_same (fun i H hs => wk1 i H (r5.s.trans hs)) el (Grow.refl I6.s) nG5 acc5 (rv.up ((g3.g.trans g4.g).trans g5.g)) hle fun G' H' acc' a1 a2 a3 a4 => ?_
                  exact ⟨G', acc', out ++ ys1, zs, rr.trans a1, a2, a3, a4, rfl, by rw [hy, ← e3]; simp⟩
    · have e2 : i = ds.length := by omega
      refine .inl ⟨(wk i H2 g12.h).1 (by omega), ?_⟩
      rw [e2, List.drop_length] at hr
      have e3 : rest = [] := by cases hr; rfl
      subst e3
      rw [List.append_nil] at hy
      subst hy
      exact hfin _ G2 H2 (g1.trans g12) (fresh_acc rv hacc (g1.h.free hD) nG)
theorem se_lc2 {elt tg iter tg1 iter1 : Expr} {ifs ifs1 : List Expr} {scope : Scope} {own : List (Str × Nat)} {vs1 : List Nat} {pos : Pos} {s s2 : LD} {k1 k2 : Tg} {t1 t2 : TD} {e : ED} (hc : X.calm = true) (hN : X.N.Nodup) (hi : SJ X E C tg iter s) (ok : BlkOk X.N X.env.scope scope own) (hv : ∀ i ∈ slotsT k1, i ∈ own.map (·.2)) (hvs : ∀ i ∈ vs1, i ∈ own.map (·.2)) (hv1 : ∀ i ∈ slotsT k2, i ∈ vs1)
    (hg : ∀ b : Bk, SG (b.x X scope) tg k1) (ht : ∀ b : Bk, STs (b.x X scope) E0 C ifs t1) (hi1 : ∀ b : Bk, SI (b.x X scope) E0 C tg1 iter1 s2) (hg1 : ∀ b : Bk, SG (b.x X scope) tg1 k2) (ht1 : ∀ b : Bk, STs (b.x X scope) E0 C ifs1 t2) (he : ∀ b : Bk, SE (b.x X scope) E0 C elt e)
    (hs : ∀ x, foldedSetIterable iter X.env x = pure x := by intro _; rfl) (hs1 : ∀ env x, foldedSetIterable iter1 env x = pure x := by intro _ _; rfl) :
    SE X E C (.ListComp elt [⟨tg, iter, ifs, 0⟩, ⟨tg1, iter1, ifs1, 0⟩] scope pos) (lc2D s (own.map (·.2)) k1 t1 s2 vs1 k2 t2 e) := by
  obtain ⟨wi, pw, sw⟩ := hi
  obtain ⟨te, pe, se⟩ := blk_e he
  obtain ⟨tt, pt, st⟩ := blk_t ht
  obtain ⟨tt1, pt1, st1⟩ := blk_t ht1
  obtain ⟨wi1, pw1, sw1⟩ := blk_i hi1
  exact ⟨_, pe_lc2 hc hN pw ok hvs (fun s H C cl fp => (hg ⟨s, H, C, cl, fp⟩).p) (fun s H C cl fp => pt ⟨s, H, C, cl, fp⟩) (fun s H C cl fp => pw1 ⟨s, H, C, cl, fp⟩) (fun s H C cl fp => (hg1 ⟨s, H, C, cl, fp⟩).p) (fun s H C cl fp => pt1 ⟨s, H, C, cl, fp⟩) (fun s H C cl fp => pe ⟨s, H, C, cl, fp⟩) hs hs1, sim_lc2 hv hv1 sw sw1 st st1 se⟩
theorem ss_asgLc2 {y : Str} {py : Pos} {elt tg iter tg1 iter1 : Expr} {ifs ifs1 : List Expr} {scope : Scope} {own : List (Str × Nat)} {vs1 : List Nat} {pos spos : Pos} {s s2 : LD} {k1 k2 : Tg} {t1 t2 : TD} {e : ED} (i : Nat) (hc : X.calm = true) (hN : X.N.Nodup) (hyl : X.env.scope.names.lookup y = some .local)
    (hsw : swapsWith (.ListComp elt [⟨tg, iter, ifs, 0⟩, ⟨tg1, iter1, ifs1, 0⟩] scope pos) (some (.Name y py)) spos.line X.env = pure true) (hi : SJ X E C tg iter s) (ok : BlkOk X.N X.env.scope scope own) (hv : ∀ i ∈ slotsT k1, i ∈ own.map (·.2)) (hvs : ∀ i ∈ vs1, i ∈ own.map (·.2)) (hv1 : ∀ i ∈ slotsT k2, i ∈ vs1)
    (hg : ∀ b : Bk, SG (b.x X scope) tg k1) (ht : ∀ b : Bk, STs (b.x X scope) E0 C ifs t1) (hi1 : ∀ b : Bk, SI (b.x X scope) E0 C tg1 iter1 s2) (hg1 : ∀ b : Bk, SG (b.x X scope) tg1 k2) (ht1 : ∀ b : Bk, STs (b.x X scope) E0 C ifs1 t2) (he : ∀ b : Bk, SE (b.x X scope) E0 C elt e)
    (hy : X.N[i]? = some y := by rfl) (hs : ∀ x, foldedSetIterable iter X.env x = pure x := by intro _; rfl) (hs1 : ∀ env x, foldedSetIterable iter1 env x = pure x := by intro _ _; rfl) :
    SS X E C (.Assign [.Name y py] (.ListComp elt [⟨tg, iter, ifs, 0⟩, ⟨tg1, iter1, ifs1, 0⟩] scope pos) spos) (asgD i (lc2D s (own.map (·.2)) k1 t1 s2 vs1 k2 t2 e)) := by
  obtain ⟨wi, pw, sw⟩ := hi
  obtain ⟨te, pe, se⟩ := blk_e he
  obtain ⟨tt, pt, st⟩ := blk_t ht
  obtain ⟨tt1, pt1, st1⟩ := blk_t ht1
  obtain ⟨wi1, pw1, sw1⟩ := blk_i hi1
  exact ⟨_, ps_setLc2 hc hN hy hyl hsw pw ok hvs (fun s H C cl fp => (hg ⟨s, H, C, cl, fp⟩).p) (fun s H C cl fp => pt ⟨s, H, C, cl, fp⟩) (fun s H C cl fp => pw1 ⟨s, H, C, cl, fp⟩) (fun s H C cl fp => (hg1 ⟨s, H, C, cl, fp⟩).p) (fun s H C cl fp => pt1 ⟨s, H, C, cl, fp⟩) (fun s H C cl fp => pe ⟨s, H, C, cl, fp⟩) hs hs1, sim_asg i (sim_lc2 hv hv1 sw sw1 st st1 se)⟩
end
end Z

/-! ## ZD -/
set_option Elab.async false
set_option linter.all false
set_option maxRecDepth 100000
set_option maxHeartbeats 2000000
namespace Z
open PySem PySem.Spec PyProof.Rows L2

/-! ### [e for ..], e a new owned list of n + 1 levels each time -/
def R.asFr (n : Nat) : R → Option (Ty (n + 1))
  | .fr m t => if h : m = n then some (h ▸ t) else none
  | _ => none
def lcLF (n : Nat) (k : Tg) (t : TD) (e : ED) (ρ : Env) : List PD → Out (List (Ty (n + 1)))
  | [] => .ok []
  | d :: ds => match bindT k d ρ with
    | none => .st
    | some ρ1 => (noX (t ρ1)).bind fun c => if c = true then (noX (e ρ1)).bind fun r => match r.asFr n with
        | some y => (lcLF n k t e ρ ds).bind fun ys => .ok (y :: ys)
        | none => .st
      else lcLF n k t e ρ ds
def lcFD (n : Nat) (s : LD) (vs : List Nat) (k : Tg) (t : TD) (e : ED) : ED := fun ρ => (s ρ).bind fun ds => (noX (lcLF n k t e (wipeE ρ vs) ds)).bind fun ys => if ys.length ≤ 100000 then .ok (.fr (n + 1) ys) else .st
section
variable {X : Cx} {E : XK} {C : CM}
theorem sim_lcF {K : PySem.W.Frag} {wi : TI} {s : LD} {n : Nat} {k : Tg} {tt : TT} {t : TD} {te : TE} {e : ED} {vs : List Nat} (hv : ∀ i ∈ slotsT k, i ∈ vs)
    (sw : ∀ G0 H0 G H σ ρ (Q : It → Hp → Prop), EnvOk K G0 H0 G H σ ρ → (match s ρ with
      | .ok ds => ∀ J G' H', Grow G H G' H' → Walks K J G' ds (fun H2 => Same H' H2) → Q J H'
      | .ex c => ∀ G' H', Grow G H G' H' → E (C c) none H'
      | .st => False) → wi σ H Q)
    (st : SimT K E0 C tt t) (se : SimE K E0 C te e) : SimE K E C (tLc wi (tgOf K k) tt te vs) (lcFD n s vs k t e) := by
  intro G0 H0 G H σ ρ Q I h
  unfold lcFD at h
  refine sw G0 H0 G H σ ρ _ I ?_
  cases es : s ρ with
  | st => rw [es] at h; exact h
  | ex c => rw [es] at h; exact h
  | ok ds =>
    rw [es] at h
    intro J G1 H1 g1 wk D hD
    have I1 := I.grow g1
    have q : OOk K E C G H Q ((noX (lcLF n k t e (wipeE ρ vs) ds)).bind fun ys => if ys.length ≤ 100000 then .ok (.fr (n + 1) ys) else .st) := h
    obtain ⟨ys, ey, hlen, hfin⟩ : ∃ ys, lcLF n k t e (wipeE ρ vs) ds = .ok ys ∧ ys.length ≤ 100000 ∧ OOk K E C G H Q (.ok (.fr (n + 1) ys)) := by
      cases ey : lcLF n k t e (wipeE ρ vs) ds with
      | ok ys =>
        rw [ey] at q
        by_cases c : ys.length ≤ 100000
        · exact ⟨ys, rfl, c, by have q' : OOk K E C G H Q (if ys.length ≤ 100000 then .ok (.fr (n + 1) ys) else .st) := q; rw [if_pos c] at q'; exact q'⟩
        · have q' : OOk K E C G H Q (if ys.length ≤ 100000 then .ok (.fr (n + 1) ys) else .st) := q
          rw [if_neg c] at q'
          exact q'.elim
      | ex c => rw [ey] at q; exact q.elim
      | st => rw [ey] at q; exact q.elim
    have s1 : Same H1 (hide (upd H1 D (.lst [])) D) := by rw [hide_upd]; exact same_to_hide (Same.refl _) hD
    have gs : Grow G1 H1 G1 (hide (upd H1 D (.lst [])) D) := ⟨Same.refl _, s1, I1.s.trans s1, fun _ _ _ _ h => h⟩
    -- what has been made: trees of their own
    let Mk : Hp → Hp → List (ATy (n + 1)) → Prop := fun G2 H2 xs => (∀ y ∈ xs, ATy.ok K G2 H2 (n + 1) y ∧ ATy.nd (n + 1) y ∧ ∀ a ∈ ATy.adr (n + 1) y, H1 a = none ∧ G2 a = none ∧ a ≠ D) ∧ xs.Pairwise fun y z => ∀ a ∈ ATy.adr (n + 1) y, a ∉ ATy.adr (n + 1) z
    refine ⟨fun i m H2 => ∃ G2 xs rest, Grow G1 H1 G2 (hide H2 D) ∧ G2 D = none ∧ H2 D = some (.lst (xs.map (ATy.val (n + 1)))) ∧ Mk G2 H2 xs ∧ m = ds.length - i ∧ i ≤ ds.length ∧ lcLF n k t e (wipeE ρ vs) (ds.drop i) = .ok rest ∧ ys = xs.map (ATy.era (n + 1)) ++ rest,
      ⟨ds.length, G1, [], ys, gs, I1.s.free hD, upd_same, ⟨(fun _ h => nomatch h), .nil⟩, rfl, Nat.zero_le _, ey, rfl⟩, ?_⟩
    rintro i m H2 ⟨G2, xs, rest, g2, nG, hacc, mk, rfl, hi, hr, hy⟩
    have gu : Grow G2 (hide H2 D) G2 H2 := Grow.unhide g2.s
    have g12 : Grow G1 H1 G2 H2 := g2.trans gu
    have I2 := I1.grow g12
    have mkGrow : ∀ {G3 H3}, Grow G2 H2 G3 H3 → Mk G3 H3 xs := fun {G3 H3} g => ⟨fun y hy => by
      obtain ⟨y1, y2, y3⟩ := mk.1 y hy
      refine ⟨ATy.ok_mono g.g g.h _ _ y1, y2, fun a ha => ⟨(y3 a ha).1, ?_, (y3 a ha).2.2⟩⟩
      obtain ⟨us, hu⟩ := ATy.in_heap _ _ y1 a ha
      exact g.m a _ hu trivial (y3 a ha).2.1, mk.2⟩
    by_cases hlt : i < ds.length
    · have hd : ds[i]? = some ds[i] := List.getElem?_eq_getElem hlt
      obtain ⟨go, yl⟩ := (wk i H2 g12.h).2 _ hd
      refine .inr ⟨go, fun H3 => ∃ G3 xs rest, Grow G1 H1 G3 (hide H3 D) ∧ G3 D = none ∧ H3 D = some (.lst (xs.map (ATy.val (n + 1)))) ∧ Mk G3 H3 xs ∧ lcLF n k t e (wipeE ρ vs) (ds.drop (i + 1)) = .ok rest ∧ ys = xs.map (ATy.era (n + 1)) ++ rest, fun H3 ⟨G3, xs, rest, a1, a2, a3, a4, a5, a6⟩ => ⟨ds.length - (i + 1), by omega, G3, xs, rest, a1, a2, a3, a4, rfl, hlt, a5, a6⟩, fun v H3 hyl => ?_⟩
      obtain ⟨G3, g3, rd⟩ := yl v H3 hyl G2 g12.g I2.s
      have I3 := I2.grow g3
      refine tgOf_ok k (I3.wipe vs) rd ?_
      rw [List.drop_eq_getElem_cons hlt] at hr
      unfold lcLF at hr
      cases eb : bindT k ds[i] (wipeE ρ vs) with
      | none => simp only [eb] at hr; cases hr
      | some ρ1 =>
        simp only [eb] at hr
        intro σ3 I4 hw
        refine ⟨by rw [hw vs hv, wipe_wipe], ?_⟩
        refine st G0 H0 G3 H3 σ3 ρ1 _ I4 ?_
        cases et : t ρ1 with
        | ex c => simp [et, noX, Out.bind] at hr
        | st => simp [et, noX, Out.bind] at hr
        | ok b =>
          simp only [et, noX, Out.bind] at hr
          intro G4 H4 g4
          have I5 := I4.grow g4
          have g24 := g3.trans g4
          cases b with
          | false =>
            obtain ⟨r1, r2⟩ := g2.rehide g24 hD hacc trivial nG
            exact ⟨G4, xs, rest, r1, r2, g24.h _ _ hacc, mkGrow g24, hr, hy⟩
          | true =>
            simp only [if_true] at hr
            refine se G0 H0 G4 H4 σ3 ρ1 _ I5 ?_
            cases ee : e ρ1 with
            | ex c => simp [ee] at hr
            | st => simp [ee] at hr
            | ok r =>
              simp only [ee] at hr
              cases ea : r.asFr n with
              | none => simp [ea] at hr
              | some y =>
                simp only [ea] at hr
                cases el : lcLF n k t e (wipeE ρ vs) (ds.drop (i + 1)) with
                | ex c => simp [el] at hr
                | st => simp [el] at hr
                | ok rest' =>
                  simp only [el] at hr
                  have er2 : y :: rest' = rest := by injection hr
                  intro v G5 H5 g5 hr5
                  have g25 := g24.trans g5
                  have efr : r = .fr n y := by
                    cases r with
                    | im d => cases ea
                    | ro m u => cases ea
                    | fr m u =>
                      simp only [R.asFr] at ea
                      split at ea
                      · rename_i hm
                        subst hm
                        cases ea
                        rfl
                      · cases ea
                  subst efr
                  obtain ⟨z, z1, z2, z3, z4, z5⟩ := hr5
                  obtain ⟨r1, r2⟩ := g2.rehide g25 hD hacc trivial nG
                  have acc5 := g25.h _ _ hacc
                  have acc4 := g24.h _ _ hacc
                  have zD : ∀ a ∈ ATy.adr (n + 1) z, a ≠ D := fun a ha q => by
                    have := (z5 a ha).1
                    rw [q, acc4] at this
                    cases this
                  obtain ⟨m1, m2⟩ := mkGrow g25
                  have s14 : Same H1 H4 := g12.h.trans g24.h
                  refine ⟨_, acc5, ?_, G5, xs ++ [z], rest', by rw [hide_upd]; exact r1, r2, ?_, ⟨?_, ?_⟩, rfl, ?_⟩
                  · rw [List.length_map]
                    have : ys.length = xs.length + rest.length := by rw [hy]; simp
                    exact lt_line (by omega)
                  · rw [upd_same, List.map_append, List.map_singleton, z2]
                  · intro w hw
                    rw [List.mem_append, List.mem_singleton] at hw
                    rcases hw with h | h
                    · obtain ⟨w1, w2, w3⟩ := m1 w h
                      exact ⟨ATy.ok_keep (Same.refl _) _ _ (fun a ha => upd_ne (w3 a ha).2.2) w1, w2, w3⟩
                    · subst h
                      exact ⟨ATy.ok_keep (Same.refl _) _ _ (fun a ha => upd_ne (zD a ha)) z3, z4, fun a ha => ⟨s14.free (z5 a ha).1, (z5 a ha).2, zD a ha⟩⟩
                  · refine pairwise_snoc m2 fun w hw a ha q => ?_
                    obtain ⟨w1, w2, w3⟩ := (mkGrow g24).1 w hw
                    obtain ⟨us, hu⟩ := ATy.in_heap _ _ w1 a ha
                    rw [(z5 a q).1] at hu
                    cases hu
                  · rw [hy, List.map_append, List.map_singleton, z1, ← er2]
                    simp
    · have e2 : i = ds.length := by omega
      refine .inl ⟨(wk i H2 g12.h).1 (by omega), ?_⟩
      rw [e2, List.drop_length] at hr
      have e3 : rest = [] := by cases hr; rfl
      subst e3
      rw [List.append_nil] at hy
      have h1 : H D = none := g1.h.free hD
      refine hfin _ G2 H2 (g1.trans g12) ⟨((D, xs) : Addr × List (ATy (n + 1))), hy.symm, rfl, ⟨hacc, fun y hy => (mk.1 y hy).1⟩, ⟨fun y hy => ⟨(mk.1 y hy).2.1, fun q => ((mk.1 y hy).2.2 D q).2.2 rfl⟩, mk.2⟩, fun a ha => ?_⟩
      have ha' : a ∈ D :: xs.flatMap (ATy.adr (n + 1)) := ha
      simp only [List.mem_cons, List.mem_flatMap] at ha'
      rcases ha' with rfl | ⟨y, hy, ha⟩
      · exact ⟨h1, nG⟩
      · exact ⟨g1.h.free ((mk.1 y hy).2.2 a ha).1, ((mk.1 y hy).2.2 a ha).2.1⟩
theorem se_lcF {elt tg iter : Expr} {ifs : List Expr} {scope : Scope} {own : List (Str × Nat)} {pos : Pos} {s : LD} {k : Tg} {t : TD} {e : ED} (n : Nat) (hc : X.calm = true) (hN : X.N.Nodup) (hi : SJ X E C tg iter s) (ok : BlkOk X.N X.env.scope scope own) (hv : ∀ i ∈ slotsT k, i ∈ own.map (·.2))
    (hg : ∀ b : Bk, SG (b.x X scope) tg k) (ht : ∀ b : Bk, STs (b.x X scope) E0 C ifs t) (he : ∀ b : Bk, SE (b.x X scope) E0 C elt e) (hs : ∀ x, foldedSetIterable iter X.env x = pure x := by intro _; rfl) :
    SE X E C (.ListComp elt [⟨tg, iter, ifs, 0⟩] scope pos) (lcFD n s (own.map (·.2)) k t e) := by
  obtain ⟨wi, pw, sw⟩ := hi
  obtain ⟨te, pe, se⟩ := blk_e he
  obtain ⟨tt, pt, st⟩ := blk_t ht
  exact ⟨_, pe_lc hc hN pw ok (fun s H C cl fp => (hg ⟨s, H, C, cl, fp⟩).p) (fun s H C cl fp => pt ⟨s, H, C, cl, fp⟩) (fun s H C cl fp => pe ⟨s, H, C, cl, fp⟩) hs, sim_lcF hv sw st se⟩
theorem ss_asgLcF {y : Str} {py : Pos} {elt tg iter : Expr} {ifs : List Expr} {scope : Scope} {own : List (Str × Nat)} {pos spos : Pos} {s : LD} {k : Tg} {t : TD} {e : ED} (n i : Nat) (hc : X.calm = true) (hN : X.N.Nodup) (hyl : X.env.scope.names.lookup y = some .local)
    (hsw : swapsWith (.ListComp elt [⟨tg, iter, ifs, 0⟩] scope pos) (some (.Name y py)) spos.line X.env = pure true) (hi : SJ X E C tg iter s) (ok : BlkOk X.N X.env.scope scope own) (hv : ∀ i ∈ slotsT k, i ∈ own.map (·.2))
    (hg : ∀ b : Bk, SG (b.x X scope) tg k) (ht : ∀ b : Bk, STs (b.x X scope) E0 C ifs t) (he : ∀ b : Bk, SE (b.x X scope) E0 C elt e) (hy : X.N[i]? = some y := by rfl) (hs : ∀ x, foldedSetIterable iter X.env x = pure x := by intro _; rfl) :
    SS X E C (.Assign [.Name y py] (.ListComp elt [⟨tg, iter, ifs, 0⟩] scope pos) spos) (asgD i (lcFD n s (own.map (·.2)) k t e)) := by
  obtain ⟨wi, pw, sw⟩ := hi
  obtain ⟨te, pe, se⟩ := blk_e he
  obtain ⟨tt, pt, st⟩ := blk_t ht
  exact ⟨_, ps_setLc hc hN hy hyl hsw pw ok (fun s H C cl fp => (hg ⟨s, H, C, cl, fp⟩).p) (fun s H C cl fp => pt ⟨s, H, C, cl, fp⟩) (fun s H C cl fp => pe ⟨s, H, C, cl, fp⟩) hs, sim_asg i (sim_lcF hv sw st se)⟩
/-- [] as an owned list of lists -/
@[simp] def nilD (n : Nat) : ED := fun _ => .ok (.fr n [])
theorem se_nil (n : Nat) {pos : Pos} : SE X E C (.List [] pos) (nilD n) := by
  refine ⟨_, pe_lst pa_nil, fun G0 H0 G H σ ρ Q I h => ?_⟩
  refine ⟨Nat.zero_le _, fun p hp => h _ G _ (Grow.new I.s hp) ⟨((p, []) : Addr × List (ATy n)), rfl, rfl, ⟨upd_same, (fun _ h => nomatch h)⟩, ⟨(fun _ h => nomatch h), .nil⟩, fun a ha => ?_⟩⟩
  have ha' : a ∈ p :: ([] : List (ATy n)).flatMap (ATy.adr n) := ha
  have e : a = p := by simpa using ha'
  subst e
  exact ⟨hp, I.s.free hp⟩
/-- what is new is known for ever -/
@[simp] def fzD (e : ED) : ED := fun ρ => (e ρ).bind fun r => .ok r.fz
theorem se_fz {e : Expr} {d : ED} (he : SE X E C e d) : SE X E C e (fzD d) := by
  obtain ⟨te, pe, se⟩ := he
  refine ⟨_, pe, fun G0 H0 G H σ ρ Q I h => ?_⟩
  refine se.useF famO I h fun r x G1 H1 e1 g1 I1 k1 h1 => h1 x G1 H1 (Grow.refl I1.s) ?_
  cases r <;> exact k1

/-! ### len(set(xs)) of ints -/
def ddL (ns : List Int) : List Int := ns.foldl PyProof.Rows.step_dedup []
theorem firstMet_eq (ns : List Int) : PyProof.Rows.firstMet (fun i => ns.getD i 0) ns.length = ddL ns := by
  unfold PyProof.Rows.firstMet ddL
  congr 1
  apply List.ext_getElem
  · simp
  · intro i h1 h2
    simp at h1
    simp [List.getD_eq_getElem?_getD, h1]
@[simp] def lenSetD (e : ED) : ED := fun ρ => (e ρ).bind fun r => match r.dat with
  | .list ds => match intsOf ds with
    | some ns => if ns.length ≤ 4000 then .ok (.im (.int ((ddL ns).length : Nat))) else .st
    | none => .st
  | _ => .st
theorem se_lenSet {a : Expr} {d : ED} {p p2 q pos : Pos} (hg : Gl X "len") (hm : X.mg "len" = none) (hg2 : Gl X "set") (hm2 : X.mg "set" = none) (ha : SE X E C a d) (hc : X.calm = true := by rfl)
    (na : starEach [a] X.env = (false, eval a X.env) :: starEach [] X.env := by rfl) : SE X E C (.Call (.Name "len" p) [.Call (.Name "set" p2) [a] [] q] [] pos) (lenSetD d) := by
  obtain ⟨ta, pa, sa⟩ := ha
  refine ⟨fun σ H Q => ta σ H fun x H1 => ∃ (l : Addr) (ns : List Int), x = .ref l ∧ SqL X.K H1 l (ns.map V.int) ∧ ns.length ≤ 4000 ∧ Q (.int ((ddL ns).length : Nat)) H1, ⟨fun pins s σ H Q I h => ?_⟩, ?_⟩
  · refine Call_ (ld_blt I hg hm boot_len ?_)
    refine PyProof.Rows.callWith_builtin1 (PyProof.Rows.args_cons ?_ rfl) rfl rfl
    refine Call_ (ld_blt I hg2 hm2 boot_set ?_)
    refine PyProof.Rows.callWith_type1 (PyProof.Rows.args_cons (thn (pa.run pins s σ H _ I h) fun v s1 ⟨x, H1, I1, r1, q1⟩ => PyProof.Rows.args_nil ?_) na) na rfl
    obtain ⟨l, ns, rfl, hq, hl, q1⟩ := q1
    cases r1
    obtain ⟨its, r, pl, hz⟩ := I1.list hq
    have hlen : its.toArray.size = ns.length := by rw [List.size_toArray, ← r.length, List.length_map]
    refine call_set_list (I1.ok.hd hc) pl.isList (by simpa using RZ.intsAre_vals r) (by rw [hlen]; unfold scanBound; omega) fun h' tk hS hk => ?_
    refine PyProof.Rows.args_nil ?_
    rw [hlen, firstMet_eq] at hS
    obtain ⟨o, es, ep, t, ho, hex, hd, _, _, _, hf, hn⟩ := hS
    have I2 : Inv X pins σ H1 { s1 with heap := h', toks := tk } := I1.kept fun b o e => hk b o (Heap.lt_size e) e
    have hle : (ddL ns).length ≤ ns.length := by
      rw [← firstMet_eq]
      exact PyProof.Rows.firstMet_length_le _ _
    exact call_len_set ho hex hd hf (by rw [hn] <;> omega) ⟨.int (ddL ns).length, H1, I2.tok _, ⟨_, by rw [hn]⟩, q1⟩
  · intro G0 H0 G H σ ρ Q I h
    refine sa.use famO I h fun r x G1 H1 e1 g1 I1 k1 h1 => ?_
    have k := k1.rp I1.s
    split at h1
    · rename_i ds q
      rw [q] at k
      split at h1
      · rename_i ns q2
        split at h1
        · rename_i c
          rw [intsOf_eq q2] at k
          cases k with
          | lst h3 h4 =>
            rw [h4.ints] at h3
            exact ⟨_, ns, rfl, SqL.of h3, c, h1 _ G1 H1 (Grow.refl I1.s) (.int _)⟩
        · exact h1.elim
      · exact h1.elim
    · exact h1.elim
theorem dd_snoc (ns : List Int) (n : Int) : ddL (ns ++ [n]) = PyProof.Rows.step_dedup (ddL ns) n := by
  unfold ddL
  rw [List.foldl_append]
  rfl
end
end Z

/-! ## ZE -/
set_option Elab.async false
set_option linter.all false
namespace Z
open PySem PySem.Spec PyProof.Rows L2
/-- a law's end where the rights of an exception speak of the world -/
theorem walk_w {l : PySem.W.OpenLaw} {n k : Nat} {q : Program} {loose : List Str} {XP : (Str → Option Value) → Heap → Prop} {YP : World → Heap → Prop} {d : DefRec} {CX : World → CXT} {x : Str}
    (hn : l.most = some n) (hn2 : n ≤ sizeLine) (hdf : d.params.defaults = []) (hr : Room k callerA)
    (hCX : ∀ (w : World) (H : Hp) (s : Shared) (e : Value) (s' : Shared), CX w [] H s (fun _ _ _ => False) e s' → False)
    (F : ∀ (w : World) (mg : Str → Option Value) (fa : Addr) (h : Heap), YP w h → h.Ns mainGlobals mg → mg d.name = some (.ref fa) →
      ∃ (K : PySem.W.Frag) (fd : FuncData) (sp : Sp), K.In h ∧ (∀ (s : Shared) (u : Value), BindsTo s fd ⟨[u], []⟩ [(x, u)]) ∧
        (∀ (H : Hp) (a : Addr) (ns : List Int), ns.length ≤ n → Only H → SqL K H a (ns.map V.int) → sp [.ref a] H (fun v _ => v = .bl true) fun _ _ _ => False) ∧
        ∀ base : Heap, K.In base → base.Ns mainGlobals mg → FnOk l.prog w K mg base (CX w) k fa fd [x] sp) :
    PySem.W.WalkO q loose XP YP l.row.toRowW d [] (fun f vs => PySem.call f vs) := by
  refine Att.attach_call hn hdf fun w s₀ s₁ mg mb fa o pm cd doc a vs ns G Y ho hd hcd hmg hobj hints hlen hg => ?_
  obtain ⟨K, fd, sp, KX, hb, hsp, hF⟩ := F w mg fa _ Y G.T.g hmg
  exact law_call KX G.T.g G.T.b G.T.builtins G.T.nolimit hg hobj hints (Nat.le_trans hlen hn2) hr hF hb (fun H hO hS => hsp H a ns hlen hO hS) fun H e s' => hCX w H s₁ e s'
theorem cx_no {P : Program} (w : World) (H : Hp) (s : Shared) (e : Value) (s' : Shared) (h : L2N.CX P w [] H s (fun _ _ _ => False) e s') : False := by
  obtain ⟨_, _, _, _, _, _, _, _, _, _, _, _, z⟩ := h
  exact z
end Z

/-! ## ZF -/
set_option Elab.async false
set_option linter.all false
set_option maxRecDepth 100000
set_option maxHeartbeats 2000000
namespace Z
open PySem PySem.Spec PyProof.Rows L2
section
variable {X : Cx} {E : XK} {C : CM}
/-! ### [a, b], a and b two new owned lists of one shape -/
def lstF2 (n : Nat) (e1 e2 : ED) : ED := fun ρ => (e1 ρ).bind fun r1 => (e2 ρ).bind fun r2 => match r1.asFr n, r2.asFr n with
  | some a, some b => .ok (.fr (n + 1) [a, b])
  | _, _ => .st
theorem asFr_eq {n : Nat} {r : R} {t : Ty (n + 1)} (h : r.asFr n = some t) : r = .fr n t := by
  cases r with
  | im d => simp [R.asFr] at h
  | ro m u => simp [R.asFr] at h
  | fr m u =>
    simp only [R.asFr] at h
    split at h
    · rename_i e
      subst e
      cases h
      rfl
    · cases h
theorem pair_own {K : PySem.W.Frag} {H G1 H1 G2 H2 : Hp} {n : Nat} {a b : Ty (n + 1)} {v1 v2 : V} {p : Addr} (g1 : Grow H H H1 H1) (g2 : Grow G1 H1 G2 H2) (k1 : ROk K H G1 H1 (.fr n a) v1) (k2 : ROk K H1 G2 H2 (.fr n b) v2) (hp : H2 p = none) (hs : Same H H1) : ROk K H G2 (upd H2 p (.lst [v1, v2])) (.fr (n + 1) [a, b]) (.ref p) := by
  obtain ⟨x, x1, x2, x3, x4, x5⟩ := k1
  obtain ⟨y, y1, y2, y3, y4, y5⟩ := k2
  subst x1; subst x2; subst y1; subst y2
  have xh := ATy.in_heap (n + 1) x x3
  have yh := ATy.in_heap (n + 1) y y3
  have x3' := ATy.ok_mono g2.g (g2.h.trans (same_upd (o := .lst [ATy.val (n + 1) x, ATy.val (n + 1) y]) hp)) (n + 1) x x3
  have y3' := ATy.ok_mono (Same.refl _) (same_upd (o := .lst [ATy.val (n + 1) x, ATy.val (n + 1) y]) hp) (n + 1) y y3
  have np : ∀ c, H2 c ≠ none → c ≠ p := fun c h e => h (e ▸ hp)
  have xp : p ∉ ATy.adr (n + 1) x := fun h => by
    obtain ⟨xs, e⟩ := xh p h
    have := g2.h _ _ e
    rw [hp] at this
    cases this
  have yp : p ∉ ATy.adr (n + 1) y := fun h => by
    obtain ⟨xs, e⟩ := yh p h
    rw [hp] at e
    cases e
  have dj : ∀ c ∈ ATy.adr (n + 1) x, c ∉ ATy.adr (n + 1) y := fun c h1 h2 => by
    obtain ⟨xs, e⟩ := xh c h1
    rw [(y5 c h2).1] at e
    cases e
  refine ⟨((p, [x, y]) : Addr × List (ATy (n + 1))), rfl, rfl, ⟨upd_same, ?_⟩, ⟨?_, ?_⟩, ?_⟩
  · intro z hz
    have hz' : z = x ∨ z = y := by simpa using hz
    rcases hz' with rfl | rfl
    · exact x3'
    · exact y3'
  · intro z hz
    have hz' : z = x ∨ z = y := by simpa using hz
    rcases hz' with rfl | rfl
    · exact ⟨x4, xp⟩
    · exact ⟨y4, yp⟩
  · exact .cons (fun z hz => by have : z = y := by simpa using hz
                                subst this; exact dj) (.cons (fun _ h => nomatch h) .nil)
  · intro c hc
    have hc' : c = p ∨ c ∈ ATy.adr (n + 1) x ∨ c ∈ ATy.adr (n + 1) y := by
      have : c ∈ p :: ([x, y] : List (ATy (n + 1))).flatMap (ATy.adr (n + 1)) := hc
      simpa using this
    have fH : ∀ c, H2 c = none → H c = none := fun c h => hs.free (g2.h.free h)
    rcases hc' with rfl | h | h
    · exact ⟨fH _ hp, g2.s.free hp⟩
    · obtain ⟨xs, e⟩ := xh c h
      exact ⟨(x5 c h).1, g2.m c _ e trivial (x5 c h).2⟩
    · exact ⟨hs.free (y5 c h).1, (y5 c h).2⟩
theorem se_lstF2 (n : Nat) {a b : Expr} {d1 d2 : ED} {pos : Pos} (h1 : SE X E C a d1) (h2 : SE X E C b d2) (hs1 : starEach [a, b] X.env = (false, eval a X.env) :: starEach [b] X.env := by rfl) (hs2 : starEach [b] X.env = (false, eval b X.env) :: starEach [] X.env := by rfl) : SE X E C (.List [a, b] pos) (lstF2 n d1 d2) := by
  obtain ⟨t1, p1, s1⟩ := h1
  obtain ⟨t2, p2, s2⟩ := h2
  refine ⟨_, pe_lst (pa_cons p1 (pa_cons p2 pa_nil hs2) hs1), ?_⟩
  intro G0 H0 G H σ ρ Q I h
  refine s1 G0 H0 G H σ ρ _ I ?_
  unfold lstF2 at h
  cases e1 : d1 ρ with
  | ex c => rw [e1] at h; exact h
  | st => rw [e1] at h; exact h.elim
  | ok r1 =>
    rw [e1] at h
    intro v1 G1 H1 g1 k1
    refine s2 G0 H0 G1 H1 σ ρ _ (I.grow g1) ?_
    have h' : OOk X.K E C G H Q ((d2 ρ).bind fun r2 => match r1.asFr n, r2.asFr n with
      | some a, some b => .ok (.fr (n + 1) [a, b])
      | _, _ => .st) := h
    cases e2 : d2 ρ with
    | ex c => rw [e2] at h'; exact fun G' H' g => h' G' H' (g1.trans g)
    | st => rw [e2] at h'; exact h'.elim
    | ok r2 =>
      rw [e2] at h'
      intro v2 G2 H2 g2 k2
      have h2' : OOk X.K E C G H Q (match r1.asFr n, r2.asFr n with
        | some a, some b => .ok (.fr (n + 1) [a, b])
        | _, _ => .st) := h'
      split at h2'
      · rename_i a b ea eb
        have f1 := asFr_eq ea
        have f2 := asFr_eq eb
        subst f1; subst f2
        refine ⟨(show (2 : Nat) ≤ sizeLine by decide), fun p hp => h2' _ G2 _ ((g1.trans g2).trans (Grow.new g2.s hp)) ?_⟩
        exact pair_own ⟨g1.h, g1.h, Same.refl _, fun a o e m hn => by rw [e] at hn; cases hn⟩ g2 k1 k2 hp g1.h
      · exact h2'.elim
/-! ### a display of owned lists, only read -/
def ros (n : Nat) : List R → Option (List (Ty (n + 1)))
  | [] => some []
  | .ro m t :: rs => if h : m = n then (ros n rs).map ((h ▸ t) :: ·) else none
  | _ => none
theorem ROkA.ros {K : PySem.W.Frag} {H0 G H : Hp} {n : Nat} {rs : List R} {vs : List V} {ts : List (Ty (n + 1))} (h : ROkA K H0 G H rs vs) (e : ros n rs = some ts) : ∃ xs : List (ATy (n + 1)), xs.map (ATy.era (n + 1)) = ts ∧ xs.map (ATy.val (n + 1)) = vs ∧ ∀ x ∈ xs, ATy.ok K G H (n + 1) x := by
  induction h generalizing ts with
  | nil => cases e; exact ⟨[], rfl, rfl, (fun _ h => nomatch h)⟩
  | @cons r rs v vs a _ ih =>
    cases r with
    | im d => simp [Z.ros] at e
    | fr m t => simp [Z.ros] at e
    | ro m t =>
      simp only [Z.ros] at e
      split at e
      · rename_i hm
        subst hm
        simp only [Option.map_eq_some_iff] at e
        obtain ⟨us, e1, e2⟩ := e
        subst e2
        obtain ⟨xs, q1, q2, q3⟩ := ih e1
        obtain ⟨x, x1, x2, x3⟩ := a
        refine ⟨x :: xs, ?_, ?_, ?_⟩
        · rw [List.map_cons, q1, x1]
        · rw [List.map_cons, q2, x2]
        · intro z hz
          rcases List.mem_cons.mp hz with rfl | hz
          · exact x3
          · exact q3 z hz
      · cases e
def lstRD (n : Nat) (a : AD) : ED := fun ρ => (a ρ).bind fun rs => match ros n rs with
  | some ts => if rs.length ≤ 100000 then .ok (.ro (n + 1) ts) else .st
  | none => .st
theorem ROkA.length {K : PySem.W.Frag} {H0 G H : Hp} {rs : List R} {vs : List V} (h : ROkA K H0 G H rs vs) : vs.length = rs.length := by
  induction h with
  | nil => rfl
  | cons _ _ ih => simp [ih]
theorem se_lstR (n : Nat) {es : List Expr} {a : AD} {pos : Pos} (ha : SA X E C es a) : SE X E C (.List es pos) (lstRD n a) := by
  obtain ⟨ta, pa, sa⟩ := ha
  refine ⟨_, pe_lst pa, ?_⟩
  intro G0 H0 G H σ ρ Q I h
  refine sa.use famO I h fun rs vs G1 H1 e1 g1 I1 k1 h1 => ?_
  have hl := k1.length
  cases e : ros n rs with
  | none => rw [e] at h1; exact h1.elim
  | some ts =>
    simp only [e] at h1
    split at h1
    · rename_i c
      obtain ⟨xs, q1, q2, q3⟩ := k1.ros e
      refine ⟨by rw [hl]; exact le_line c, fun p hp => h1 _ G1 _ (Grow.new I1.s hp) ?_⟩
      refine ⟨((p, xs) : Addr × List (ATy (n + 1))), q1, rfl, ?_, fun x hx => ATy.ok_mono (Same.refl _) (same_upd hp) (n + 1) x (q3 x hx)⟩
      show upd H1 p (.lst vs) p = some (.lst (xs.map (ATy.val (n + 1))))
      rw [upd_same, q2]
    · exact h1.elim
/-! ### is a list empty? -/
@[simp] def truD (a : ED) : TD := fun ρ => (a ρ).bind fun r => match r.dat with
  | .bool b => .ok b
  | .list ds => .ok (!ds.isEmpty)
  | _ => .st
theorem st_tru {a : Expr} {da : ED} (ha : SE X E C a da) (he : ∀ whole, isTrue a X.env whole = (do let v ← whole; standAt a.pos; holding [v] (truthy v)) := by intro _; rfl) : ST X E C a (truD da) := by
  obtain ⟨ta, pa, sa⟩ := ha
  refine ⟨_, pt_truth pa he, ?_⟩
  intro G0 H0 G H σ ρ Q I h
  refine sa.use famT I h fun r1 x G1 H1 e1 g1 I1 k1 h1 => ?_
  have k := k1.rp I1.s
  split at h1
  · rename_i b e
    rw [e] at k
    cases k
    exact ⟨b, rfl, h1 G1 H1 (Grow.refl I1.s)⟩
  · rename_i ds e
    rw [e] at k
    cases k with
    | lst q1 q2 =>
      rename_i vs
      refine ⟨!ds.isEmpty, .inl ⟨_, SqL.of q1, ?_⟩, h1 G1 H1 (Grow.refl I1.s)⟩
      cases q2 <;> rfl
  · exact h1.elim
/-! ### over a tuple -/
@[simp] def itT (e : ED) : LD := fun ρ => (e ρ).bind fun r => match r with
  | .im (.tuple ds) => .ok ds
  | _ => .st
theorem walks_tup {K : PySem.W.Frag} {G : Hp} {a : Addr} {vs : List V} {ds : List PD} {S : Hp → Prop} (hS : ∀ H, S H → SqT K H a vs ∧ Same G H) (r : RpA K G vs ds) : Walks K (Itt K a) G ds S := by
  intro i H hs
  obtain ⟨h1, s⟩ := hS H hs
  refine ⟨fun hi => ⟨vs, h1, by rw [r.length]; exact hi⟩, fun d hd => ?_⟩
  obtain ⟨v, hv, rv⟩ := r.getD hd
  refine ⟨⟨vs, v, h1, hv⟩, fun v' H' hy => ?_⟩
  obtain ⟨rfl, hy⟩ := hy
  have e : vs[i]? = some v' := hy vs h1
  rw [hv] at e
  cases e
  exact fun G' s1 s2 => ⟨G', Grow.refl s2, rv.up s1⟩
theorem si_tupl {tg e : Expr} {d : ED} (he : SE X E C e d) : SI X E C tg e (itT d) := by
  obtain ⟨te, pe, se⟩ := he
  refine ⟨_, pi_tup pe, fun G0 H0 G H σ ρ Q I h => ?_⟩
  refine se.use (P := ItOk X.K E C (fun G' _ H2 => Same G' H2) Q) famI I h fun r x G1 H1 e1 g1 I1 k1 h1 => ?_
  split at h1
  · rename_i ds
    cases k1 with
    | tup h2 h3 => exact ⟨_, rfl, ⟨_, SqT.of (I1.s _ _ h2)⟩, h1 _ G1 H1 (Grow.refl I1.s) (walks_tup (fun H hs => ⟨SqT.of (hs _ _ h2), hs⟩) h3)⟩
  · exact h1.elim
/-! ### xs[::-1] -/
theorem RpA.rev {K : PySem.W.Frag} {G : Hp} : ∀ (ds : List PD) (vs : List V), RpA K G vs ds → RpA K G vs.reverse ds.reverse
  | [], _, h => by cases h; exact .nil
  | d :: ds, _, h => by
    cases h with
    | cons a b =>
      rw [List.reverse_cons, List.reverse_cons]
      exact (RpA.rev ds _ b).append (.cons a .nil)
@[simp] def revD (a : ED) : ED := fun ρ => (a ρ).bind fun r => match kidsS r.fz with
  | some ds => .ok (.fr 0 ds.reverse)
  | none => .st
theorem se_rev {e : Expr} {d : ED} {k : Nat} {p1 p2 p3 pos : Pos} (he : SE X E C e d) : SE X E C (.Subscript e (.Slice none none (some (.UnaryOp .USub (.Constant (.int 1) k p1) p2)) p3) pos) (revD d) := by
  obtain ⟨te, pe, se⟩ := he
  refine ⟨_, pe_revL pe, ?_⟩
  intro G0 H0 G H σ ρ Q I h
  refine se.useF famO I h fun r x G1 H1 e1 g1 I1 k1 h1 => ?_
  split at h1
  · rename_i ds q
    obtain ⟨a, vs, rfl, h2, h3⟩ := k1.kidsS I1.s q
    exact ⟨a, vs, rfl, h2, fun p hp => h1 _ G1 _ (Grow.new I1.s hp) (fresh_list (RpA.rev _ _ h3) hp I1.s)⟩
  · exact h1.elim
/-! ### xs.index(e) -/
def indexF (ds : List PD) (d : PD) : Option PD := if shp (.list ds) && shp d then (ds.findIdx? fun z => PyData.eqv z d).map fun j => .int (j : Nat) else none
def indexD (o e : ED) : ED := fun ρ => (o ρ).bind fun r => match r.dat with
  | .list ds => (e ρ).bind fun r2 => (match indexF ds r2.dat with
    | some d => .ok (.im d)
    | none => .st)
  | _ => .st
theorem se_index {o e : Expr} {d1 d2 : ED} {apos cpos : Pos} (hu : X.A.units + 65 < cLine) (ho : SE X E C o d1) (he : SE X E C e d2)
    (hp : ∀ to t, PE X o to → PA X [e] t → PE X (.Call (.Attribute o "index" apos) [e] [] cpos) (tBM X.K "list" (rIndexD X.K) to t)) (hst : starEach [e] X.env = (false, eval e X.env) :: starEach [] X.env := by rfl) :
    SE X E C (.Call (.Attribute o "index" apos) [e] [] cpos) (indexD d1 d2) := by
  obtain ⟨to, po, so⟩ := ho
  obtain ⟨te, pe, se⟩ := he
  refine ⟨_, hp _ _ po (pa_cons pe pa_nil hst), ?_⟩
  intro G0 H0 G H σ ρ Q I h
  refine so.use famO I h fun r1 x G1 H1 e1 g1 I1 k1 h1 => ?_
  have kx := k1.rp I1.s
  split at h1
  · rename_i ds ed
    rw [ed] at kx
    obtain ⟨a, vs, rfl, hs⟩ : ∃ a vs, x = .ref a ∧ SqL X.K H1 a vs := by
      cases kx with
      | lst q1 q2 => exact ⟨_, _, rfl, SqL.of q1⟩
    refine ⟨.inl ⟨rfl, vs, hs⟩, ?_⟩
    refine se.use famO I1 h1 fun r2 y G2 H2 e2 g2 I2 k2 h2 => ?_
    have ky := k2.rp I2.s
    cases ei : indexF ds r2.dat with
    | none => rw [ei] at h2; exact h2.elim
    | some z =>
      rw [ei] at h2
      unfold indexF at ei
      split at ei
      · rename_i c
        simp only [Bool.and_eq_true] at c
        simp only [Option.map_eq_some_iff] at ei
        obtain ⟨j, ej, rfl⟩ := ei
        rw [List.findIdx?_eq_some_iff_getElem] at ej
        obtain ⟨jl, jt, jn⟩ := ej
        have c1 := c.1
        have c2 := c.2
        simp only [shp, Bool.and_eq_true] at c1 c2
        have kx2 : Rp X.K H2 (.ref a) (.list ds) := kx.up g2.h
        refine ⟨a, y, r2.dat, ds, j, ds[j], rfl, rfl, kx2.dp _ _ c1.1, ky.dp _ _ c2.1, c1.2, c2.2, by simp [jl], jt, fun m z' hm hz => ?_, h2 _ G2 H2 (Grow.refl I2.s) (.int _)⟩
        have ml : m < ds.length := by omega
        rw [List.getElem?_eq_getElem ml] at hz
        cases hz
        have := jn m hm
        simpa using this
      · cases ei
  · exact h1.elim
end
end Z

/-! ## ZG -/
set_option Elab.async false
set_option linter.all false
set_option maxRecDepth 100000
set_option maxHeartbeats 2000000
namespace Z
open PySem PySem.Spec PyProof.Rows L2
section
variable {X : Cx} {E : XK} {C : CM}
/-! ### what is never reached -/
theorem se_stuck {e : Expr} : SE X E C e (fun _ => .st) := ⟨fun _ _ _ => False, ⟨fun _ _ _ _ _ _ h => h.elim⟩, fun _ _ _ _ _ _ _ _ h => h⟩
theorem ss_stuck {s : Stmt} : SS X E C s (fun _ => .st) := ⟨fun _ _ _ => False, ⟨fun _ _ _ _ _ _ h => h.elim⟩, fun _ _ _ _ _ _ _ _ h => h⟩
theorem sb_stuck {s : List Stmt} : SB X E C s (fun _ => .st) := ⟨fun _ _ _ => False, ⟨fun _ _ _ _ _ _ h => h.elim⟩, fun _ _ _ _ _ _ _ _ h => h⟩
end

/-! ### expressions that change entries -/
inductive OX where
  | ok (r : R) (ρ : Env)
  | ex (c : String) (ρ : Env)
  | st
abbrev EX := Env → OX
inductive OTX where
  | ok (b : Bool) (ρ : Env)
  | ex (c : String) (ρ : Env)
  | st
abbrev TX := Env → OTX
/-- a result whose lists are those of F -/
def XR (K : PySem.W.Frag) (G H : Hp) (F : List Addr) : R → V → Prop
  | .im d, v => Rp K G v d
  | .ro _ _, _ => False
  | .fr n t, v => ∃ x : ATy (n + 1), ATy.era (n + 1) x = t ∧ ATy.val (n + 1) x = v ∧ ATy.ok K G H (n + 1) x ∧ ATy.nd (n + 1) x ∧ ∀ a ∈ ATy.adr (n + 1) x, a ∈ F
def XOk (K : PySem.W.Frag) (E : XK) (C : CM) (G0 H0 G : Hp) (σ : L2.St) (Q : VK) : OX → Prop
  | .ok r ρ => ∀ v G' H' F, Same G G' → EnvR K G0 H0 G' H' σ ρ F → XR K G' H' F r v → Q v H'
  | .ex c ρ => ∀ G' H', Same G G' → EnvOk K G0 H0 G' H' σ ρ → E (C c) none H'
  | .st => False
def XTOk (K : PySem.W.Frag) (E : XK) (C : CM) (G0 H0 G : Hp) (σ : L2.St) (Q : Bool → Hp → Prop) : OTX → Prop
  | .ok b ρ => ∀ G' H', Same G G' → EnvOk K G0 H0 G' H' σ ρ → Q b H'
  | .ex c ρ => ∀ G' H', Same G G' → EnvOk K G0 H0 G' H' σ ρ → E (C c) none H'
  | .st => False
def SimX (K : PySem.W.Frag) (E : XK) (C : CM) (te : TE) (d : EX) : Prop := ∀ G0 H0 G H σ ρ (Q : VK), EnvOk K G0 H0 G H σ ρ → XOk K E C G0 H0 G σ Q (d ρ) → te σ H Q
def SimXT (K : PySem.W.Frag) (E : XK) (C : CM) (tt : TT) (d : TX) : Prop := ∀ G0 H0 G H σ ρ (Q : Bool → Hp → Prop), EnvOk K G0 H0 G H σ ρ → XTOk K E C G0 H0 G σ Q (d ρ) → tt σ H Q
structure SX (X : Cx) (E : XK) (C : CM) (e : Expr) (d : EX) : Prop where
  p : ∃ te, PE X e te ∧ SimX X.K E C te d
structure STX (X : Cx) (E : XK) (C : CM) (e : Expr) (d : TX) : Prop where
  p : ∃ te, PT X e te ∧ SimXT X.K E C te d
structure SWX (X : Cx) (E : XK) (C : CM) (e : Expr) (d : TX) : Prop where
  p : ∃ te, PW X e te ∧ SimXT X.K E C te d
section
variable {K : PySem.W.Frag} {E : XK} {C : CM} {G0 H0 G G' H : Hp} {σ : L2.St} {ρ : Env} {F : List Addr}
theorem XOk.up {Q : VK} {o : OX} (h : XOk K E C G0 H0 G σ Q o) (s : Same G G') : XOk K E C G0 H0 G' σ Q o := by
  cases o with
  | ok r ρ => exact fun v G2 H2 F s2 I x => h v G2 H2 F (s.trans s2) I x
  | ex c ρ => exact fun G2 H2 s2 I => h G2 H2 (s.trans s2) I
  | st => exact h
theorem XTOk.up {Q : Bool → Hp → Prop} {o : OTX} (h : XTOk K E C G0 H0 G σ Q o) (s : Same G G') : XTOk K E C G0 H0 G' σ Q o := by
  cases o with
  | ok r ρ => exact fun G2 H2 s2 I => h G2 H2 (s.trans s2) I
  | ex c ρ => exact fun G2 H2 s2 I => h G2 H2 (s.trans s2) I
  | st => exact h
/-- what is new becomes known for ever -/
theorem EnvR.fz {n : Nat} {t : Ty (n + 1)} {v : V} (I : EnvR K G0 H0 G H σ ρ F) (h : XR K G H F (.fr n t) v) : ∃ G', Same G G' ∧ EnvOk K G0 H0 G' H σ ρ ∧ Rp K G' v (Ty.dat (n + 1) t) := by
  obtain ⟨len, b, w, hw, hF⟩ := I
  obtain ⟨x, x1, x2, x3, x4, x5⟩ := h
  have hs : Same G (know G H (ATy.adr (n + 1) x)) := know_same b.s fun a ha => (hF a (x5 a ha)).2.1
  refine ⟨know G H (ATy.adr (n + 1) x), hs, ⟨len, ⟨b.g.trans hs, b.h, know_heap b.s, fun a o h1 h2 h3 => ?_⟩, w, fun j e he => ?_⟩, ?_⟩
  · by_cases h : a ∈ ATy.adr (n + 1) x
    · rw [(hF a (x5 a h)).2.2] at h1; cases h1
    · rw [know_out h]; exact b.m a o h1 h2 h3
  · have h := hw j e he
    cases e with
    | no => trivial
    | im d => obtain ⟨v, e1, e2⟩ := h; exact ⟨v, e1, e2.up hs⟩
    | vv v => exact h
    | ob a C fs =>
      obtain ⟨z1, z2, z3, dx, vs, z4, z5⟩ := h
      refine ⟨z1, z2, ⟨?_, z3.2⟩, dx, vs, z4, z5.up hs⟩
      rw [know_out]
      · exact z3.1
      · intro q
        have e1 := (hF a (x5 a q)).1
        rw [z2] at e1
        cases e1
    | ow m u =>
      obtain ⟨y, y1, y2, y3, y4, y5⟩ := h
      refine ⟨y, y1, y2, ATy.ok_mono hs (Same.refl _) _ _ y3, y4, fun a ha => ⟨(y5 a ha).1, ?_, (y5 a ha).2.2⟩⟩
      rw [know_out]
      · exact (y5 a ha).2.1
      · intro q
        have e1 := (hF a (x5 a q)).1
        rw [(y5 a ha).1] at e1
        cases e1
  · subst x1; subst x2
    exact ATy.known (n + 1) x (fun a ha => know_in ha) hs x3
theorem EnvR.fzR {r : R} {v : V} (I : EnvR K G0 H0 G H σ ρ F) (h : XR K G H F r v) : ∃ G', Same G G' ∧ EnvOk K G0 H0 G' H σ ρ ∧ Rp K G' v r.dat := by
  cases r with
  | im d => exact ⟨G, Same.refl _, I.ok, h⟩
  | ro n t => exact h.elim
  | fr n t => exact I.fz h
/-- a new owned list at i -/
theorem EnvR.setFr {n : Nat} {t : Ty (n + 1)} {v : V} (I : EnvR K G0 H0 G H σ ρ F) (h : XR K G H F (.fr n t) v) (i : Nat) : EnvOk K G0 H0 G H (σ.set i (some v)) (ρ.set i (.ow n t)) := by
  obtain ⟨len, b, w, hw, hF⟩ := I
  obtain ⟨x, x1, x2, x3, x4, x5⟩ := h
  refine ⟨by simp [len], b, fun a => if a ∈ ATy.adr (n + 1) x then some i else w a, fun j e he => ?_⟩
  by_cases c : i = j
  · subst c
    by_cases hi : i < ρ.length
    · rw [List.getElem?_set_self hi] at he
      cases he
      rw [getD_set_self (by omega)]
      exact ⟨x, by rw [x2], x1, x3, x4, fun a ha => ⟨if_pos ha, (hF a (x5 a ha)).2⟩⟩
    · rw [List.getElem?_eq_none (by simp; omega)] at he
      cases he
  · rw [List.getElem?_set_ne c] at he
    rw [getD_set_ne c]
    have h := hw j e he
    cases e with
    | no => trivial
    | im d => exact h
    | vv v => exact h
    | ob a C fs =>
      obtain ⟨z1, z2, z3⟩ := h
      refine ⟨z1, ?_, z3⟩
      show (if a ∈ ATy.adr (n + 1) x then some i else w a) = some j
      rw [if_neg]
      · exact z2
      · intro q
        have e1 := (hF a (x5 a q)).1
        rw [z2] at e1
        cases e1
    | ow m u =>
      obtain ⟨y, y1, y2, y3, y4, y5⟩ := h
      refine ⟨y, y1, y2, y3, y4, fun a ha => ⟨?_, (y5 a ha).2⟩⟩
      show (if a ∈ ATy.adr (n + 1) x then some i else w a) = some j
      rw [if_neg]
      · exact (y5 a ha).1
      · intro q
        have e1 := (hF a (x5 a q)).1
        rw [(y5 a ha).1] at e1
        cases e1
/-- the heap without some lists -/
def less (H : Hp) (as : List Addr) : Hp := fun a => if a ∈ as then none else H a
theorem less_in {as : List Addr} {a : Addr} (h : a ∈ as) : less H as a = none := if_pos h
theorem less_out {as : List Addr} {a : Addr} (h : a ∉ as) : less H as a = H a := if_neg h
theorem less_same {as : List Addr} : Same (less H as) H := fun a o e => by
  by_cases h : a ∈ as
  · rw [less_in h] at e; cases e
  · rw [less_out h] at e; exact e
theorem same_less {as : List Addr} (s : Same G H) (h : ∀ a ∈ as, G a = none) : Same G (less H as) := fun a o e => by
  rw [less_out (fun q => by rw [h a q] at e; cases e)]
  exact s _ _ e
theorem EnvR.less (I : EnvR K G0 H0 G H σ ρ F) : EnvOk K G0 H0 G (Z.less H F) σ ρ := by
  obtain ⟨len, b, w, hw, hF⟩ := I
  refine ⟨len, ⟨b.g, same_less b.h fun a ha => (hF a ha).2.2, same_less b.s fun a ha => (hF a ha).2.1, b.m⟩, w, fun j e he => ?_⟩
  have h := hw j e he
  cases e with
  | no => trivial
  | im d => exact h
  | vv v => exact h
  | ob a C fs =>
    obtain ⟨z1, z2, z3, dx, vs, z4, z5⟩ := h
    refine ⟨z1, z2, z3, dx, vs, ?_, z5⟩
    rw [less_out]
    · exact z4
    · intro q
      have e1 := (hF a q).1
      rw [z2] at e1
      cases e1
  | ow m u =>
    obtain ⟨y, y1, y2, y3, y4, y5⟩ := h
    refine ⟨y, y1, y2, ATy.ok_keep (Same.refl _) _ _ (fun a ha => less_out fun q => ?_) y3, y4, y5⟩
    have e1 := (hF a q).1
    rw [(y5 a ha).1] at e1
    cases e1
end
/-! #### pieces -/
@[simp] def pureX (d : ED) : EX := fun ρ => match d ρ with
  | .ok (.im d) => .ok (.im d) ρ
  | .ok (.fr n t) => .ok (.fr n t) ρ
  | .ok (.ro _ _) => .st
  | .ex c => .ex c ρ
  | .st => .st
@[simp] def pureT (d : TD) : TX := fun ρ => match d ρ with
  | .ok b => .ok b ρ
  | .ex c => .ex c ρ
  | .st => .st
section
variable {X : Cx} {E : XK} {C : CM}
theorem sx_pure {e : Expr} {d : ED} (he : SE X E C e d) : SX X E C e (pureX d) := by
  obtain ⟨te, pe, se⟩ := he
  refine ⟨te, pe, fun G0 H0 G H σ ρ Q I h => se G0 H0 G H σ ρ Q I ?_⟩
  simp only [pureX] at h
  cases e : d ρ with
  | ok r =>
    rw [e] at h
    cases r with
    | im d => exact fun v G' H' g hr => h v G' H' [] g.g (I.grow g).r hr
    | ro n t => exact h.elim
    | fr n t =>
      intro v G' H' g hr
      obtain ⟨x, e1, e2, e3, e4, e5⟩ := hr
      exact h v G' H' (ATy.adr (n + 1) x) g.g (I.fresh g fun a ha => e5 a ha) ⟨x, e1, e2, e3, e4, fun a ha => ha⟩
  | ex c => rw [e] at h; exact fun G' H' g => h G' H' g.g (I.grow g)
  | st => rw [e] at h; exact h
theorem sx_purt {e : Expr} {d : TD} (he : ST X E C e d) : STX X E C e (pureT d) := by
  obtain ⟨te, pe, se⟩ := he
  refine ⟨te, pe, fun G0 H0 G H σ ρ Q I h => se G0 H0 G H σ ρ Q I ?_⟩
  simp only [pureT] at h
  cases e : d ρ with
  | ok r => rw [e] at h; exact fun G' H' g => h G' H' g.g (I.grow g)
  | ex c => rw [e] at h; exact fun G' H' g => h G' H' g.g (I.grow g)
  | st => rw [e] at h; exact h
/-- a value that is True or False, as a test -/
@[simp] def tstX (d : EX) : TX := fun ρ => match d ρ with
  | .ok (.im (.bool b)) ρ' => .ok b ρ'
  | .ex c ρ' => .ex c ρ'
  | _ => .st
theorem sx_val {a : Expr} {da : EX} (ha : SX X E C a da) (he : ∀ whole, isTrue a X.env whole = (do let v ← whole; standAt a.pos; holding [v] (truthy v)) := by intro _; rfl) : STX X E C a (tstX da) := by
  obtain ⟨ta, pa, sa⟩ := ha
  refine ⟨_, pt_val pa he, fun G0 H0 G H σ ρ Q I h => sa G0 H0 G H σ ρ _ I ?_⟩
  simp only [tstX] at h
  cases e : da ρ with
  | ok r ρ' =>
    rw [e] at h
    cases r with
    | im d =>
      cases d with
      | bool b =>
        intro v G' H' F s I' hr
        cases hr
        exact ⟨b, rfl, h G' H' s I'.ok⟩
      | _ => exact h.elim
    | _ => exact h.elim
  | ex c ρ' => rw [e] at h; exact h
  | st => rw [e] at h; exact h
@[simp] def notX (d : TX) : TX := fun ρ => match d ρ with
  | .ok b ρ' => .ok (!b) ρ'
  | .ex c ρ' => .ex c ρ'
  | .st => .st
theorem sx_not {a : Expr} {da : TX} {pos : Pos} (ha : STX X E C a da) : STX X E C (.UnaryOp .Not a pos) (notX da) := by
  obtain ⟨ta, pa, sa⟩ := ha
  refine ⟨_, pt_not pa, fun G0 H0 G H σ ρ Q I h => sa G0 H0 G H σ ρ _ I ?_⟩
  simp only [notX] at h
  cases e : da ρ with
  | ok b ρ' => rw [e] at h; exact h
  | ex c ρ' => rw [e] at h; exact h
  | st => rw [e] at h; exact h
@[simp] def andX (a b : TX) : TX := fun ρ => match a ρ with
  | .ok true ρ' => b ρ'
  | .ok false ρ' => .ok false ρ'
  | .ex c ρ' => .ex c ρ'
  | .st => .st
@[simp] def orX (a b : TX) : TX := fun ρ => match a ρ with
  | .ok false ρ' => b ρ'
  | .ok true ρ' => .ok true ρ'
  | .ex c ρ' => .ex c ρ'
  | .st => .st
theorem swx_and {a b : Expr} {rest : List Expr} {da db : TX} {pos : Pos} (ha : STX X E C a da) (hb : SWX X E C (.BoolOp .And (b :: rest) pos) db) : SWX X E C (.BoolOp .And (a :: b :: rest) pos) (andX da db) := by
  obtain ⟨ta, pa, sa⟩ := ha
  obtain ⟨tb, pb, sb⟩ := hb
  refine ⟨_, pw_and pa pb, fun G0 H0 G H σ ρ Q I h => sa G0 H0 G H σ ρ _ I ?_⟩
  simp only [andX] at h
  cases e : da ρ with
  | ok b ρ' =>
    rw [e] at h
    intro G' H' s I'
    cases b with
    | true => exact sb G0 H0 G' H' σ ρ' Q I' (XTOk.up h s)
    | false => exact h G' H' s I'
  | ex c ρ' => rw [e] at h; exact h
  | st => rw [e] at h; exact h
theorem swx_or {a b : Expr} {rest : List Expr} {da db : TX} {pos : Pos} (ha : STX X E C a da) (hb : SWX X E C (.BoolOp .Or (b :: rest) pos) db) : SWX X E C (.BoolOp .Or (a :: b :: rest) pos) (orX da db) := by
  obtain ⟨ta, pa, sa⟩ := ha
  obtain ⟨tb, pb, sb⟩ := hb
  refine ⟨_, pw_or pa pb, fun G0 H0 G H σ ρ Q I h => sa G0 H0 G H σ ρ _ I ?_⟩
  simp only [orX] at h
  cases e : da ρ with
  | ok b ρ' =>
    rw [e] at h
    intro G' H' s I'
    cases b with
    | false => exact sb G0 H0 G' H' σ ρ' Q I' (XTOk.up h s)
    | true => exact h G' H' s I'
  | ex c ρ' => rw [e] at h; exact h
  | st => rw [e] at h; exact h
theorem swx_and1 {a : Expr} {da : TX} {pos : Pos} (ha : STX X E C a da) : SWX X E C (.BoolOp .And [a] pos) da := by
  obtain ⟨ta, pa, sa⟩ := ha
  exact ⟨_, pw_and1 pa, sa⟩
theorem swx_or1 {a : Expr} {da : TX} {pos : Pos} (ha : STX X E C a da) : SWX X E C (.BoolOp .Or [a] pos) da := by
  obtain ⟨ta, pa, sa⟩ := ha
  exact ⟨_, pw_or1 pa, sa⟩
theorem SWX.t {a : Expr} {da : TX} (ha : SWX X E C a da) : STX X E C a da := by
  obtain ⟨ta, pa, sa⟩ := ha
  exact ⟨_, pa.pt, sa⟩
/-- a and b, as a value: a True or False -/
@[simp] def andVX (a b : EX) : EX := fun ρ => match a ρ with
  | .ok (.im (.bool true)) ρ' => b ρ'
  | .ok (.im (.bool false)) ρ' => .ok (.im (.bool false)) ρ'
  | .ex c ρ' => .ex c ρ'
  | _ => .st
@[simp] def orVX (a b : EX) : EX := fun ρ => match a ρ with
  | .ok (.im (.bool false)) ρ' => b ρ'
  | .ok (.im (.bool true)) ρ' => .ok (.im (.bool true)) ρ'
  | .ex c ρ' => .ex c ρ'
  | _ => .st
theorem sx_and {a b : Expr} {rest : List Expr} {da db : EX} {pos : Pos} (ha : SX X E C a da) (hb : SX X E C (.BoolOp .And (b :: rest) pos) db) : SX X E C (.BoolOp .And (a :: b :: rest) pos) (andVX da db) := by
  obtain ⟨ta, pa, sa⟩ := ha
  obtain ⟨tb, pb, sb⟩ := hb
  refine ⟨_, pe_and pa pb, fun G0 H0 G H σ ρ Q I h => sa G0 H0 G H σ ρ _ I ?_⟩
  simp only [andVX] at h
  cases e : da ρ with
  | ok r ρ' =>
    rw [e] at h
    cases r with
    | im d =>
      cases d with
      | bool b =>
        intro v G' H' F s I' hr
        cases hr
        cases b with
        | true => exact ⟨true, rfl, sb G0 H0 G' H' σ ρ' Q I'.ok (XOk.up h s)⟩
        | false => exact ⟨false, rfl, h _ G' H' [] s I'.ok.r (.bl false)⟩
      | _ => exact h.elim
    | _ => exact h.elim
  | ex c ρ' => rw [e] at h; exact h
  | st => rw [e] at h; exact h
theorem sx_or {a b : Expr} {rest : List Expr} {da db : EX} {pos : Pos} (ha : SX X E C a da) (hb : SX X E C (.BoolOp .Or (b :: rest) pos) db) : SX X E C (.BoolOp .Or (a :: b :: rest) pos) (orVX da db) := by
  obtain ⟨ta, pa, sa⟩ := ha
  obtain ⟨tb, pb, sb⟩ := hb
  refine ⟨_, pe_or pa pb, fun G0 H0 G H σ ρ Q I h => sa G0 H0 G H σ ρ _ I ?_⟩
  simp only [orVX] at h
  cases e : da ρ with
  | ok r ρ' =>
    rw [e] at h
    cases r with
    | im d =>
      cases d with
      | bool b =>
        intro v G' H' F s I' hr
        cases hr
        cases b with
        | false => exact ⟨false, rfl, sb G0 H0 G' H' σ ρ' Q I'.ok (XOk.up h s)⟩
        | true => exact ⟨true, rfl, h _ G' H' [] s I'.ok.r (.bl true)⟩
      | _ => exact h.elim
    | _ => exact h.elim
  | ex c ρ' => rw [e] at h; exact h
  | st => rw [e] at h; exact h
theorem sx_one {op} {a : Expr} {da : EX} {pos : Pos} (ha : SX X E C a da) : SX X E C (.BoolOp op [a] pos) da := by
  obtain ⟨ta, pa, sa⟩ := ha
  exact ⟨_, pe_one pa, sa⟩
/-- an expression that changes entries, then an operator, then a pure one -/
@[simp] def binX (f : PD → PD → Option PD) (a : EX) (b : ED) : EX := fun ρ => match a ρ with
  | .ok r ρ' => match b ρ' with
    | .ok r2 => match f r.dat r2.dat with
      | some d => .ok (.im d) ρ'
      | none => .st
    | .ex c => .ex c ρ'
    | .st => .st
  | .ex c ρ' => .ex c ρ'
  | .st => .st
theorem sim_binX {K : PySem.W.Frag} {r : R2} {f : PD → PD → Option PD} {ta tb : TE} {a : EX} {b : ED} (l : Lk2 K r f) (ha : SimX K E C ta a) (hb : SimE K E C tb b) : SimX K E C (tOp r ta tb) (binX f a b) := by
  intro G0 H0 G H σ ρ Q I h
  refine ha G0 H0 G H σ ρ _ I ?_
  simp only [binX] at h
  cases e : a ρ with
  | ok r1 ρ' =>
    rw [e] at h
    intro v G1 H1 F s1 IR hr
    obtain ⟨G2, s2, I2, rp⟩ := IR.fzR hr
    refine hb G0 H0 G2 H1 σ ρ' _ I2 ?_
    simp only at h
    cases e2 : b ρ' with
    | ok r2 =>
      rw [e2] at h
      intro y G3 H3 g3 hy
      simp only at h
      cases e3 : f r1.dat r2.dat with
      | none => rw [e3] at h; exact h.elim
      | some z =>
        rw [e3] at h
        have I3 := I2.grow g3
        obtain ⟨u, eu, hr⟩ := l H3 v y _ _ z Q ((rp.up I2.s).up g3.h) (hy.rp I3.s) e3
        exact hr (h u G3 H3 [] ((s1.trans s2).trans g3.g) I3.r (rp_sc eu))
    | ex c => rw [e2] at h; exact fun G3 H3 g3 => h G3 H3 ((s1.trans s2).trans g3.g) (I2.grow g3)
    | st => rw [e2] at h; exact h
  | ex c ρ' => rw [e] at h; exact h
  | st => rw [e] at h; exact h
theorem sx_cmp {op : CmpOp} {r : R2} {f : PD → PD → Option PD} {a b : Expr} {da : EX} {db : ED} {pos : Pos} (ho : OpR X (compareOp op) r) (l : Lk2 X.K r f) (ha : SX X E C a da) (hb : SE X E C b db) (hm : behindInMarks op b = false) : SX X E C (.Compare a [op] [b] pos) (binX f da db) := by
  obtain ⟨ta, pa, sa⟩ := ha
  obtain ⟨tb, pb, sb⟩ := hb
  exact ⟨_, pe_cmpR ho pa pb hm, sim_binX l sa sb⟩
theorem stx_cmp {op : CmpOp} {r : R2} {f : PD → PD → Option PD} {a b : Expr} {da : EX} {db : ED} {pos : Pos} (ho : OpR X (compareOp op) r) (l : Lk2 X.K r f) (ha : SX X E C a da) (hb : SE X E C b db) (hm : behindInMarks op b = false) : STX X E C (.Compare a [op] [b] pos) (tstX (binX f da db)) := by
  obtain ⟨ta, pa, sa⟩ := ha
  obtain ⟨tb, pb, sb⟩ := hb
  refine ⟨_, pt_cmpR ho pa pb hm, fun G0 H0 G H σ ρ Q I h => sim_binX l sa sb G0 H0 G H σ ρ _ I ?_⟩
  simp only [tstX] at h
  cases e : binX f da db ρ with
  | ok r ρ' =>
    rw [e] at h
    cases r with
    | im d =>
      cases d with
      | bool b =>
        intro v G' H' F s I' hr
        cases hr
        exact ⟨b, rfl, h G' H' s I'.ok⟩
      | _ => exact h.elim
    | _ => exact h.elim
  | ex c ρ' => rw [e] at h; exact h
  | st => rw [e] at h; exact h

/-! #### statements -/
def asgX (i : Nat) (d : EX) : SD := fun ρ => match d ρ with
  | .ok (.im d) ρ' => .nx (ρ'.set i (.im d))
  | .ok (.fr n t) ρ' => .nx (ρ'.set i (.ow n t))
  | .ok (.ro _ _) _ => .st
  | .ex c ρ' => .ev c ρ'
  | .st => .st
theorem ss_asgX {x : Str} {e : Expr} {d : EX} {pos' pos : Pos} (i : Nat) (hN : X.N.Nodup) (hx : Loc X.env.scope x) (he : SX X E C e d) (hi : X.N[i]? = some x := by rfl) (hs : swapsWith e (some (.Name x pos')) pos.line X.env = pure false := by rfl) (hf : X.fn x = true ∨ X.env.scope.names.lookup x = some .local := by first | exact .inl rfl | exact .inr rfl | assumption) :
    SS X E C (.Assign [.Name x pos'] e pos) (asgX i d) := by
  obtain ⟨te, pe, se⟩ := he
  refine ⟨_, ps_asg pe (pg_name hN hi hx hf) hs, fun G0 H0 G H σ ρ D I h => se G0 H0 G H σ ρ _ I ?_⟩
  unfold asgX at h
  cases e : d ρ with
  | ok r ρ' =>
    rw [e] at h
    cases r with
    | im d => exact fun v G' H' F s I' hr => h _ G' H' s (I'.ok.setIm i hr)
    | ro n t => exact h.elim
    | fr n t => exact fun v G' H' F s I' hr => h _ G' H' s (I'.setFr hr i)
  | ex c ρ' => rw [e] at h; exact fun G' H' s I' => h σ G' H' s I'
  | st => rw [e] at h; exact h
def exprX (d : EX) : SD := fun ρ => match d ρ with
  | .ok _ ρ' => .nx ρ'
  | .ex c ρ' => .ev c ρ'
  | .st => .st
theorem ss_exprX {e : Expr} {d : EX} {pos : Pos} (he : SX X E C e d) (hs : swapsWith e none pos.line X.env = pure false := by rfl) : SS X E C (.Expr e pos) (exprX d) := by
  obtain ⟨te, pe, se⟩ := he
  refine ⟨_, ps_expr pe hs, fun G0 H0 G H σ ρ D I h => se G0 H0 G H σ ρ _ I ?_⟩
  unfold exprX at h
  cases e : d ρ with
  | ok r ρ' => rw [e] at h; exact fun v G' H' F s I' hr => h σ G' H' s I'.ok
  | ex c ρ' => rw [e] at h; exact fun G' H' s I' => h σ G' H' s I'
  | st => rw [e] at h; exact h
def retX (d : EX) : SD := fun ρ => match d ρ with
  | .ok r ρ' => .rv r ρ'
  | .ex c ρ' => .ev c ρ'
  | .st => .st
theorem XR.rok {K : PySem.W.Frag} {G0 H0 G H : Hp} {σ : L2.St} {ρ : Env} {F : List Addr} {r : R} {v : V} (I : EnvR K G0 H0 G H σ ρ F) (h : XR K G H F r v) : ROk K H0 G H r v := by
  cases r with
  | im d => exact h
  | ro n t => exact h.elim
  | fr n t =>
    obtain ⟨x, x1, x2, x3, x4, x5⟩ := h
    obtain ⟨_, _, w, _, hF⟩ := I
    exact ⟨x, x1, x2, x3, x4, fun a ha => ⟨(hF a (x5 a ha)).2.2, (hF a (x5 a ha)).2.1⟩⟩
theorem ss_retX {e : Expr} {d : EX} {pos : Pos} (he : SX X E C e d) : SS X E C (.Return (some e) pos) (retX d) := by
  obtain ⟨te, pe, se⟩ := he
  refine ⟨_, ps_ret pe, fun G0 H0 G H σ ρ D I h => se G0 H0 G H σ ρ _ I ?_⟩
  unfold retX at h
  cases e : d ρ with
  | ok r ρ' => rw [e] at h; exact fun v G' H' F s I' hr => h v σ G' H' s I'.ok (hr.rok I')
  | ex c ρ' => rw [e] at h; exact fun G' H' s I' => h σ G' H' s I'
  | st => rw [e] at h; exact h
def ifX (t : TX) (a b : SD) : SD := fun ρ => match t ρ with
  | .ok true ρ' => a ρ'
  | .ok false ρ' => b ρ'
  | .ex c ρ' => .ev c ρ'
  | .st => .st
theorem ss_ifX {c : Expr} {sa sb : List Stmt} {t : TX} {a b : SD} {pos : Pos} (hc : STX X E C c t) (ha : SB X E C sa a) (hb : SB X E C sb b) : SS X E C (.If c sa sb pos) (ifX t a b) := by
  obtain ⟨tc, pc, sc⟩ := hc
  obtain ⟨ta, pa, sa⟩ := ha
  obtain ⟨tb, pb, sb⟩ := hb
  refine ⟨_, ps_if pc pa pb, fun G0 H0 G H σ ρ D I h => sc G0 H0 G H σ ρ _ I ?_⟩
  unfold ifX at h
  cases e : t ρ with
  | ok c ρ' =>
    rw [e] at h
    intro G' H' s I'
    cases c with
    | true => exact sa G0 H0 G' H' σ ρ' D I' (SOk.up h s)
    | false => exact sb G0 H0 G' H' σ ρ' D I' (SOk.up h s)
  | ex c ρ' => rw [e] at h; exact fun G' H' s I' => h σ G' H' s I'
  | st => rw [e] at h; exact h
end
end Z

/-! ## ZH -/
set_option Elab.async false
set_option linter.all false
set_option maxRecDepth 100000
set_option maxHeartbeats 2000000
namespace Z
open PySem PySem.Spec PyProof.Rows L2
/-! ### a def that takes over its first argument, an owned list -/
def SpM (K : PySem.W.Frag) (C : CM) (k : Nat) (f : (m : Nat) → Ty (m + 1) → List PD → Out R) : Sp := fun vs H Q E => ∃ (G : Hp) (m : Nat) (x : ATy (m + 1)) (us : List V) (ds : List PD),
  vs = ATy.val (m + 1) x :: us ∧ Same G H ∧ RpA K G us ds ∧ ds.length = k ∧ ATy.ok K G H (m + 1) x ∧ ATy.nd (m + 1) x ∧ (∀ a ∈ ATy.adr (m + 1) x, G a = none) ∧ OOk K E C G (less H (ATy.adr (m + 1) x)) Q (f m (ATy.era (m + 1) x) ds)
def outS : SO → Out R
  | .nx _ => .ok (.im .none)
  | .rt r => .ok r
  | .rv r _ => .ok r
  | .ex c => .ex c
  | .ev c _ => .ex c
  | _ => .st
def denM (N k : Nat) (d : SD) : (m : Nat) → Ty (m + 1) → List PD → Out R := fun m t ds => outS (d (.ow m t :: ds.map Ent.im ++ List.replicate (N - (k + 1)) Ent.no))
theorem start_okM {K : PySem.W.Frag} {G H : Hp} {N : List Str} {vs : List V} {ds : List PD} {k m : Nat} {x : ATy (m + 1)} (s : Same G H) (r : RpA K G vs ds) (hn : ds.length = k) (hN : k + 1 ≤ N.length) (x1 : ATy.ok K G H (m + 1) x) (x2 : ATy.nd (m + 1) x) (x3 : ∀ a ∈ ATy.adr (m + 1) x, G a = none) :
    EnvOk K G (less H (ATy.adr (m + 1) x)) G H (L2.start N (ATy.val (m + 1) x :: vs)) (.ow m (ATy.era (m + 1) x) :: ds.map Ent.im ++ List.replicate (N.length - (k + 1)) Ent.no) := by
  have hl := r.length
  refine ⟨by simp [L2.start]; omega, ⟨Same.refl _, less_same, s, fun _ _ _ _ h => h⟩, fun a => if a ∈ ATy.adr (m + 1) x then some 0 else none, fun i e he => ?_⟩
  cases i with
  | zero =>
    cases he
    exact ⟨x, rfl, rfl, x1, x2, fun a ha => ⟨if_pos ha, x3 a ha, less_in ha⟩⟩
  | succ i =>
    have he : (ds.map Ent.im ++ List.replicate (N.length - (k + 1)) Ent.no)[i]? = some e := by simpa using he
    by_cases h : i < ds.length
    · rw [List.getElem?_append_left (by simpa using h)] at he
      rw [List.getElem?_map] at he
      cases q : ds[i]? with
      | none => rw [q] at he; cases he
      | some d =>
        rw [q] at he
        cases he
        obtain ⟨v, e1, e2⟩ := r.getD q
        refine ⟨v, ?_, e2⟩
        unfold L2.start
        rw [List.getD_eq_getElem?_getD, List.getElem?_append_left (by simp [hl]; omega), List.getElem?_map]
        show ((vs[i]?).map some).getD none = some v
        rw [e1]
        rfl
    · rw [List.getElem?_append_right (by simpa using h)] at he
      have e2 := List.mem_of_getElem? he
      rw [List.mem_replicate] at e2
      rw [e2.2]
      trivial
theorem SOk.out {K : PySem.W.Frag} {E : XK} {C : CM} {G0 H0 G : Hp} {Q : VK} {o : SO} (h : OOk K E C G0 H0 Q (outS o)) : SOk K E C G0 H0 G { nx := fun _ H' => Q .non H', rt := Q } o := by
  cases o with
  | nx ρ => exact fun σ G' H' _ I => h .non G' H' I.b .non
  | rt r => exact fun v G' H' g hr => h v G' H' g hr
  | rv r ρ => exact fun v σ G' H' s I hr => h v G' H' I.b hr
  | ex c => exact fun G' H' g => h G' H' g
  | ev c ρ => exact fun σ G' H' s I => h G' H' I.b
  | bk ρ => exact h.elim
  | ct ρ => exact h.elim
  | st => exact h.elim
section
variable {P : Program} {w : World} {K : PySem.W.Frag} {mg : Str → Option Value} {base : Heap} {C : CM}
theorem fnOk_ofM {x qual : Str} {params : Arguments} {body : List Stmt} {scope : Scope} {f : Addr} {fd : FuncData} {N ps : List Str} {k n : Nat} {den : SD} (F : FunD K x qual params body scope [] [] f fd) (S : FnScope N ps scope) (hn : ps.length = n + 1) (hN : n + 1 ≤ N.length)
    (hbody : ∀ (cdv : Value) (A : Around) (outer : List PySem.Env) (s : Shared) (H : Hp) (E : XK), Room k (A.deeper (envOfC qual scope s.heap.objs.size f cdv)) →
      SB (cxOf (L2N.CX P w) P w K mg base N qual scope f cdv A outer s H E) E C body den) :
    FnOk P w K mg base (L2N.CX P w) (k + 1) f fd ps (SpM K C n (denM N.length n den)) := by
  refine F.ok S (fun vs H Q E h => ?_) (fun cdv A outer s H vs Q E hr h => ?_)
  · obtain ⟨G, m, x, us, ds, rfl, s, r, l, _⟩ := h
    rw [List.length_cons, r.length, l, hn]
  · obtain ⟨G, m, x, us, ds, rfl, sm, r, l, x1, x2, x3, q⟩ := h
    obtain ⟨t, p, sim⟩ := hbody cdv A outer s H E hr
    exact ⟨t, p, sim G (less H (ATy.adr (m + 1) x)) G H _ _ _ (start_okM sm r l hN x1 x2 x3) (SOk.out q)⟩
structure CalM (P : Program) (w : World) (K : PySem.W.Frag) (mg : Str → Option Value) (base : Heap) (C : CM) (x : Str) (k n : Nat) (ps : List Str) (fn : (m : Nat) → Ty (m + 1) → List PD → Out R) : Prop where
  p : ∃ (f : Addr) (fd : FuncData), FnOk P w K mg base (L2N.CX P w) k f fd ps (SpM K C n fn) ∧ mg x = some (.ref f) ∧ PySem.W.keepIn K (.ref f) = true ∧ Binds K fd ps []
end
section
variable {X : Cx} {E : XK} {C : CM}
/-- f(y, ..): y, an owned list, goes over to f -/
def callM (f : (m : Nat) → Ty (m + 1) → List PD → Out R) (j : Nat) (a : AD) : EX := fun ρ => match ρ[j]? with
  | some (.ow m t) => match noX (a ρ) with
    | .ok rs => if rs.all R.isIm then match f m t (rs.map R.dat) with
      | .ok (.im d) => .ok (.im d) (ρ.set j .no)
      | .ok (.fr n t) => .ok (.fr n t) (ρ.set j .no)
      | .ok (.ro _ _) => .st
      | .ex c => .ex c (ρ.set j .no)
      | .st => .st
      else .st
    | _ => .st
  | _ => .st
theorem sim_callM {K : PySem.W.Frag} {n j : Nat} {f : (m : Nat) → Ty (m + 1) → List PD → Out R} {ta : TA} {a : AD} (hn : ∀ ρ rs, a ρ = .ok rs → rs.length = n) (ha : SimA K E C ta a) : SimX K E C (tCall (SpM K C n f) [] E (tCons (tVar j) ta)) (callM f j a) := by
  intro G0 H0 G H σ ρ Q I h
  unfold callM at h
  cases ej : ρ[j]? with
  | none => rw [ej] at h; exact h.elim
  | some en =>
    rw [ej] at h
    cases en with
    | ow m t =>
      simp only at h
      cases ea : a ρ with
      | ex c => rw [ea] at h; exact h.elim
      | st => rw [ea] at h; exact h.elim
      | ok rs =>
        rw [ea] at h
        simp only [noX] at h
        obtain ⟨y, y1, y2, y3, y4, yR⟩ := I.drop ej
        refine ⟨ATy.val (m + 1) y, getD_some y1, ?_⟩
        refine ha G0 H0 G H σ ρ _ I ?_
        rw [ea]
        intro vs G1 H1 g1 k1
        have I1 := I.grow g1
        obtain ⟨x, x1, x2, x3, x4, xR⟩ := I1.drop ej
        have exy : ATy.val (m + 1) y = ATy.val (m + 1) x := by
          rw [x1] at y1
          exact (Option.some.inj y1).symm
        by_cases c : rs.all R.isIm = true
        · rw [if_pos c] at h
          show SpM K C n f (ATy.val (m + 1) y :: vs ++ []) H1 Q E
          rw [List.append_nil, exy]
          have xG : ∀ b ∈ ATy.adr (m + 1) x, G1 b = none := fun b hb => by
            obtain ⟨_, _, w, _, hF⟩ := xR
            exact (hF b hb).2.1
          refine ⟨G1, m, x, vs, rs.map R.dat, rfl, I1.s, k1.ims (ims_all c), by rw [List.length_map]; exact hn _ _ ea, x3, x4, xG, ?_⟩
          rw [x2]
          have J := xR.less
          cases e : f m t (rs.map R.dat) with
          | ok r =>
            rw [e] at h
            cases r with
            | im d => exact fun v G' H' g hr => h v G' H' [] (g1.g.trans g.g) (J.grow g).r hr
            | ro n t => exact h.elim
            | fr n t =>
              intro v G' H' g hr
              obtain ⟨z, z1, z2, z3, z4, z5⟩ := hr
              exact h v G' H' (ATy.adr (n + 1) z) (g1.g.trans g.g) (J.fresh g fun a ha => z5 a ha) ⟨z, z1, z2, z3, z4, fun a ha => ha⟩
          | ex c => rw [e] at h; exact fun G' H' g => h G' H' (g1.g.trans g.g) (J.grow g)
          | st => rw [e] at h; exact h
        · rw [if_neg c] at h; exact h.elim
    | _ => exact h.elim
theorem sx_callM {k kk n j : Nat} {ps : List Str} {fn : (m : Nat) → Ty (m + 1) → List PD → Out R} {x y : Str} {es : List Expr} {a : AD} {p yp pos : Pos} (G : CalM X.prog X.w X.K X.mg X.base C x k n ps fn) (hr : Room kk X.A) (hk : k ≤ kk) (hx : Passes (L2N.CX X.prog X.w) X E)
    (hl : ALen a n) (ha : SA X E C es a) (hN : X.N[j]? = some y := by rfl) (hv : Vis X.env.scope y := by first | exact Or.inl rfl | exact Or.inr (Or.inl rfl) | exact Or.inr (Or.inr rfl)) (hd : (y == ("__debug__" : Str)) = false := by decide) (hcd : (y == ("__classdict__" : Str)) = false := by decide)
    (hg : Gl X x := by rfl) (hdb : (x == ("__debug__" : Str)) = false := by decide) (he : starEach (.Name y yp :: es) X.env = (false, eval (.Name y yp) X.env) :: starEach es X.env := by rfl) (hpl : (backTo pos (starEach es X.env)).any (·.1) = false := by rfl) :
    SX X E C (.Call (.Name x p) (.Name y yp :: es) [] pos) (callM fn j a) := by
  obtain ⟨ta, pa, sa⟩ := ha
  obtain ⟨f, fd, F, hm, hkp, hb⟩ := G.p
  exact ⟨_, pe_call F (hr.mono hk) hg hm hkp hb .nil hx (pa_cons (pe_var hN hv hd hcd) pa he) hdb he hpl, sim_callM hl.l sa⟩

/-! ### arguments of which some change entries -/
inductive OAX where
  | ok (rs : List PD) (ρ : Env)
  | ex (c : String) (ρ : Env)
  | st
abbrev AX := Env → OAX
def XAOk (K : PySem.W.Frag) (E : XK) (C : CM) (G0 H0 G : Hp) (σ : L2.St) (Q : List V → Hp → Prop) : OAX → Prop
  | .ok ds ρ => ∀ vs G' H', Same G G' → EnvOk K G0 H0 G' H' σ ρ → RpA K G' vs ds → Q vs H'
  | .ex c ρ => ∀ G' H', Same G G' → EnvOk K G0 H0 G' H' σ ρ → E (C c) none H'
  | .st => False
structure SAX (X : Cx) (E : XK) (C : CM) (es : List Expr) (d : AX) : Prop where
  p : ∃ ta, PA X es ta ∧ ∀ G0 H0 G H σ ρ (Q : List V → Hp → Prop), EnvOk X.K G0 H0 G H σ ρ → XAOk X.K E C G0 H0 G σ Q (d ρ) → ta σ H Q
@[simp] def nilX : AX := fun ρ => .ok [] ρ
@[simp] def consX (e : EX) (r : AX) : AX := fun ρ => match e ρ with
  | .ok (.ro _ _) _ => .st
  | .ok x ρ1 => match r ρ1 with
    | .ok xs ρ2 => .ok (x.dat :: xs) ρ2
    | .ex c ρ2 => .ex c ρ2
    | .st => .st
  | .ex c ρ1 => .ex c ρ1
  | .st => .st
theorem sax_nil : SAX X E C [] nilX := ⟨_, pa_nil, fun G0 H0 G H σ ρ Q I h => h [] G H (Same.refl _) I .nil⟩
theorem sax_cons {e : Expr} {es : List Expr} {d : EX} {r : AX} (he : SX X E C e d) (hr : SAX X E C es r) (hs : starEach (e :: es) X.env = (false, eval e X.env) :: starEach es X.env := by rfl) : SAX X E C (e :: es) (consX d r) := by
  obtain ⟨ta, pa, sa⟩ := he
  obtain ⟨tb, pb, sb⟩ := hr
  refine ⟨_, pa_cons pa pb hs, fun G0 H0 G H σ ρ Q I h => sa G0 H0 G H σ ρ _ I ?_⟩
  simp only [consX] at h
  cases e : d ρ with
  | ok x ρ1 =>
    rw [e] at h
    have key : ∀ o : OAX, XAOk X.K E C G0 H0 G σ Q (match o with
      | .ok xs ρ2 => .ok (x.dat :: xs) ρ2
      | .ex c ρ2 => .ex c ρ2
      | .st => .st) → o = r ρ1 → XOk X.K E C G0 H0 G σ (fun v H1 => tb σ H1 fun vs H2 => Q (v :: vs) H2) (.ok x ρ1) := by
      intro o ho eo v G1 H1 F s1 IR hr
      obtain ⟨G2, s2, I2, rp⟩ := IR.fzR hr
      refine sb G0 H0 G2 H1 σ ρ1 _ I2 ?_
      rw [← eo]
      cases o with
      | ok xs ρ2 => exact fun vs G3 H3 s3 I3 rv => ho (v :: vs) G3 H3 ((s1.trans s2).trans s3) I3 (.cons (rp.up s3) rv)
      | ex c ρ2 => exact fun G3 H3 s3 I3 => ho G3 H3 ((s1.trans s2).trans s3) I3
      | st => exact ho
    cases x with
    | ro n t => exact h.elim
    | im d => exact key _ h rfl
    | fr n t => exact key _ h rfl
  | ex c ρ1 => rw [e] at h; exact h
  | st => rw [e] at h; exact h
@[simp] def callX (f : List PD → Out R) (a : AX) : EX := fun ρ => match a ρ with
  | .ok ds ρ' => match f ds with
    | .ok (.im d) => .ok (.im d) ρ'
    | .ok (.fr n t) => .ok (.fr n t) ρ'
    | .ok (.ro _ _) => .st
    | .ex c => .ex c ρ'
    | .st => .st
  | .ex c ρ' => .ex c ρ'
  | .st => .st
structure AXLen (a : AX) (n : Nat) : Prop where
  l : ∀ ρ rs ρ', a ρ = .ok rs ρ' → rs.length = n
theorem axlen_nil : AXLen nilX 0 := ⟨fun ρ rs ρ' h => by cases h; rfl⟩
theorem axlen_cons {e : EX} {a : AX} {n : Nat} (h : AXLen a n) : AXLen (consX e a) (n + 1) := ⟨fun ρ rs ρ' q => by
  simp only [consX] at q
  cases e1 : e ρ with
  | ok r ρ1 =>
    rw [e1] at q
    cases e2 : a ρ1 with
    | ok rs2 ρ2 =>
      have hl := h.l _ _ _ e2
      cases r with
      | ro n t => cases q
      | im d => simp only [e2] at q; cases q; simp [hl]
      | fr n t => simp only [e2] at q; cases q; simp [hl]
    | ex c ρ2 => cases r <;> simp [e2] at q
    | st => cases r <;> simp [e2] at q
  | ex c ρ1 => rw [e1] at q; cases q
  | st => rw [e1] at q; cases q⟩
theorem sx_cal {k kk n : Nat} {ps : List Str} {fn : List PD → Out R} {x : Str} {e : Expr} {es : List Expr} {a : AX} {p pos : Pos} (G : Cal X.prog X.w X.K X.mg X.base C x k n ps fn) (hr : Room kk X.A) (hk : k ≤ kk) (hx : Passes (L2N.CX X.prog X.w) X E)
    (hl : AXLen a n) (ha : SAX X E C (e :: es) a) (hg : Gl X x := by rfl) (hdb : (x == ("__debug__" : Str)) = false := by decide) (he : starEach (e :: es) X.env = (false, eval e X.env) :: starEach es X.env := by rfl) (hpl : (backTo pos (starEach es X.env)).any (·.1) = false := by rfl) :
    SX X E C (.Call (.Name x p) (e :: es) [] pos) (callX fn a) := by
  obtain ⟨f, fd, F, hm, hkp, hb⟩ := G.p
  obtain ⟨ta, pa, sa⟩ := ha
  refine ⟨_, pe_call F (hr.mono hk) hg hm hkp hb .nil hx pa hdb he hpl, fun G0 H0 G H σ ρ Q I h => sa G0 H0 G H σ ρ _ I ?_⟩
  simp only [callX] at h
  cases ea : a ρ with
  | ok ds ρ' =>
    rw [ea] at h
    intro vs G1 H1 s1 I1 rv
    rw [List.append_nil]
    refine ⟨G1, ds, I1.s, rv, hl.l _ _ _ ea, ?_⟩
    simp only at h
    cases e : fn ds with
    | ok r =>
      rw [e] at h
      cases r with
      | im d => exact fun v G' H' g hr => h v G' H' [] (s1.trans g.g) (I1.grow g).r hr
      | ro n t => exact h.elim
      | fr n t =>
        intro v G' H' g hr
        obtain ⟨z, z1, z2, z3, z4, z5⟩ := hr
        exact h v G' H' (ATy.adr (n + 1) z) (s1.trans g.g) (I1.fresh g fun a ha => z5 a ha) ⟨z, z1, z2, z3, z4, fun a ha => ha⟩
    | ex c => rw [e] at h; exact fun G' H' g => h G' H' (s1.trans g.g) (I1.grow g)
    | st => rw [e] at h; exact h
  | ex c ρ' => rw [ea] at h; exact h
  | st => rw [ea] at h; exact h
end
end Z

/-! ## ZI -/
set_option Elab.async false
set_option linter.all false
set_option maxRecDepth 100000
set_option maxHeartbeats 2000000
namespace Z
open PySem PySem.Spec PyProof.Rows L2
/-! ### facts of own exception classes -/
def excCB (K : PySem.W.Frag) (D : Addr) : Bool :=
  He.eqO (PySem.W.findIn K (.ref D) "__getattribute__") (some (some (.builtin "BaseException.__getattribute__"))) && (He.eqO (PySem.W.findIn K (.ref D) "__getattr__") (some none) && (decide (PySem.W.subIn K (.ref D) (.type "BaseException") = some true) && (PySem.W.hasDictIn K D &&
  (He.eqO (PySem.W.findIn K (.ref D) "__class__") (some (some (.builtin "object.__class__"))) && (He.eqO (PySem.W.specialIn K (.builtin "object.__class__") "__get__") (some (some (.builtin "getset_descriptor.__get__"))) && (decide (PySem.W.takesIn K (.builtin "object.__class__") = some true) && decide (PySem.W.mroIn K D (.type "object") = some true)))))))
theorem excCB_ok {K : PySem.W.Frag} {D : Addr} (h : excCB K D = true) : ExcC K D := by
  obtain ⟨h1, h⟩ := He.ba h
  obtain ⟨h2, h⟩ := He.ba h
  obtain ⟨h3, h⟩ := He.ba h
  obtain ⟨h4, h⟩ := He.ba h
  obtain ⟨h5, h⟩ := He.ba h
  obtain ⟨h6, h⟩ := He.ba h
  obtain ⟨h7, h8⟩ := He.ba h
  exact ⟨He.eqO_ok h1, He.eqO_ok h2, of_decide_eq_true h3, h4, He.eqO_ok h5, He.eqO_ok h6, of_decide_eq_true h7, of_decide_eq_true h8⟩
/-- a class that is asked for: one of the text's own, or a built-in one -/
inductive Tc where
  | own (x : Str)
  | bt (x : String)
def Tc.val (K : PySem.W.Frag) : Tc → Value
  | .own x => .ref (He.ga K x)
  | .bt x => .type x
def Tc.v (K : PySem.W.Frag) : Tc → V
  | .own x => .ref (He.ga K x)
  | .bt x => .ty x
theorem Tc.cls (K : PySem.W.Frag) (t : Tc) : ClsV (t.v K) (t.val K) := by
  cases t with
  | own x => exact .own _
  | bt x => exact .ty _
/-- what is asked of a class c of exceptions: isinstance, except -/
structure Xf where
  c : Str
  isa : List (Tc × Bool)
  exm : List Str
def Xf.ok (K : PySem.W.Frag) (f : Xf) : Bool := excCB K (He.ga K f.c) && (f.isa.all (fun p => decide (PySem.W.kitOne K (.ref (He.ga K f.c)) (p.1.val K) = some p.2)) && f.exm.all fun y => decide (PySem.W.exmOne K (.ref (He.ga K f.c)) (.ref (He.ga K y)) = some true))
structure XfOk (K : PySem.W.Frag) (f : Xf) : Prop where
  C : ExcC K (He.ga K f.c)
  isa : ∀ p ∈ f.isa, PySem.W.kitOne K (.ref (He.ga K f.c)) (p.1.val K) = some p.2
  exm : ∀ y ∈ f.exm, PySem.W.exmOne K (.ref (He.ga K f.c)) (.ref (He.ga K y)) = some true
theorem Xf.of {K : PySem.W.Frag} {f : Xf} (h : f.ok K = true) : XfOk K f := by
  obtain ⟨h1, h⟩ := He.ba h
  obtain ⟨h2, h3⟩ := He.ba h
  exact ⟨excCB_ok h1, fun p hp => of_decide_eq_true (List.all_eq_true.mp h2 p hp), fun y hy => of_decide_eq_true (List.all_eq_true.mp h3 y hy)⟩
theorem kitAny_of {K : PySem.W.Frag} {t : Value} : ∀ (ps : List (Tc × Bool)), (∀ p ∈ ps, PySem.W.kitOne K t (p.1.val K) = some p.2) → PySem.W.kitAny K t (ps.map fun p => p.1.val K) = some (ps.any fun p => p.2)
  | [], _ => rfl
  | p :: ps, h => by
    have h1 := h p List.mem_cons_self
    have ih := kitAny_of ps fun q hq => h q (List.mem_cons_of_mem _ hq)
    show PySem.W.kitAny K t (p.1.val K :: ps.map fun p => p.1.val K) = _
    unfold PySem.W.kitAny
    rw [h1]
    cases e : p.2 with
    | true => simp [e]
    | false => simp [e, ih]
/-! #### the hook -/
def obsX (fa : List He.Fa) (fn : List He.DefD) (b : List Xf) (K : PySem.W.Frag) : He.AlD × Bool := (He.obsD fa fn K, b.all fun f => f.ok K)
def obsXG (n : Nat) (fa : List He.Fa) (fn : List He.DefD) (b : List Xf) (g : Addr → Option Obj) : He.AlD × Bool := obsX fa fn b (He.frG g (He.asD g n))
def hookX (n : Nat) (fa : List He.Fa) (fn : List He.DefD) (b : List Xf) : PySem.W.Hook where
  α := He.AlD × Bool
  obs := fun s => obsXG n fa fn b s.heap.get?
  val := fun _ => (He.valD fn, true)
  says := fun _ h => ∃ K : PySem.W.Frag, K.In h ∧ He.SaysD fa fn K ∧ ∀ f ∈ b, XfOk K f
  of := fun _ _ e => ⟨_, He.frG_in, congrArg (fun z : He.AlD × Bool => z.1) e, fun f hf => Xf.of (List.all_eq_true.mp (congrArg (fun z : He.AlD × Bool => z.2) e) f hf)⟩
  keeps := fun _ _ _ ⟨K, hK, c⟩ k => ⟨K, PySem.W.Frag.In.keeps hK k, c⟩
theorem obsXG_eq {n : Nat} {fa : List He.Fa} {fn : List He.DefD} {b : List Xf} {g : Addr → Option Obj} {s : Shared} (h : ∀ a, g a = s.heap.get? a) : obsXG n fa fn b g = (hookX n fa fn b).obs s := by
  have e : g = s.heap.get? := funext h
  rw [e] <;> rfl

/-! ### isinstance of the exception in hand -/
/-- the exception at a, of the class D, stands in every state -/
structure InHand (X : Cx) (a D : Addr) : Prop where
  p : ∃ oe, (a, oe) ∈ X.pn ∧ Zc (.ref D) none oe ∧ ∃ vs, oe.data = .fields vs
def rIsA (K : PySem.W.Frag) (D a : Addr) : List V → Hp → VK → Prop := fun xs H Q => ∃ (c : V) (b : Bool), xs = [.ref a, c] ∧ ((∃ u, ClsV c u ∧ PySem.W.kitOne K (.ref D) u = some b) ∨ (∃ tp cs us, c = .ref tp ∧ H tp = some (.tup cs) ∧ Paired ClsV cs us ∧ PySem.W.kitAny K (.ref D) us = some b)) ∧ Q (.bl b) H
theorem call_isA {X : Cx} {a D : Addr} (C : ExcC X.K D) (hp : InHand X a D) : CallR X (.builtin "isinstance") (rIsA X.K D a) := by
  intro pins s σ H xs us Q I r h
  obtain ⟨oe, hm, hz, vs, hv⟩ := hp
  obtain ⟨c, b, rfl, h, q⟩ := h
  obtain ⟨u1, u2, rfl, r1, r2⟩ := vals2 r
  cases (show u1 = Value.ref a from r1)
  obtain ⟨hget, _⟩ := I.pin (a, oe) (List.mem_append.mpr (.inl hm))
  have J : PySem.W.InstAt s.heap a oe D none := by
    obtain ⟨oc, od, oda, osl⟩ := oe
    obtain ⟨h1, h2⟩ := hz
    dsimp only at h1 h2 hv
    subst h1 h2 hv
    exact ⟨hget, rfl, rfl, trivial⟩
  rcases h with ⟨u, k, e⟩ | ⟨tp, cs, ws, rfl, hT, k, e⟩
  · have e2 := k.eq r2
    subst e2
    exact PySem.W.kia_one (PySem.W.handS_kitx_exc C.hg C.hk C.hs C.hd C.ha C.hn C.ht C.hm) I.kIn J e (fun z => nomatch z) fun tk => ⟨.bl b, H, I.tok tk, rfl, q⟩
  · cases (show u2 = Value.ref tp from r2)
    obtain ⟨_, its, rv, o, h1, h2, n, h3⟩ := (show ObjOk X.prog X.w H s.heap tp (.tup cs) from I.hok tp _ hT)
    have e3 := ClsV.all k rv
    subst e3
    obtain ⟨oc, od, dt, sl⟩ := o
    simp only at h2 h3
    subst h2 h3
    exact PySem.W.kia_tup (PySem.W.handS_kitx_exc C.hg C.hk C.hs C.hd C.ha C.hn C.ht C.hm) I.kIn J h1 e (fun z => nomatch z) fun tk => ⟨.bl b, H, I.tok tk, rfl, q⟩
def isED (a : Addr) (i : Nat) (b : Bool) : ED := fun ρ => match ρ[i]? with
  | some (.vv v) => if v = .ref a then .ok (.im (.bool b)) else .st
  | _ => .st
/-- names of classes -/
structure TcN (X : Cx) (e : Expr) (t : Tc) : Prop where
  p : PE X e (tC (t.v X.K))
section
variable {X : Cx} {E : XK} {C : CM}
theorem tc_own {x : Str} {p : Pos} (hm : X.mg x = some (.ref (He.ga X.K x))) (hg : Gl X x := by rfl) (hd : (x == ("__debug__" : Str)) = false := by decide) : TcN X (.Name x p) (.own x) := ⟨pe_glob (v := .ref (He.ga X.K x)) hg hm rfl hd⟩
theorem tc_bt {x : Str} {T : String} {p : Pos} (hm : X.mg x = none) (hv : bootBuiltins x = some (.type T)) (hg : Gl X x := by rfl) (hn : x ≠ "__name__" := by decide) (hd : (x == ("__debug__" : Str)) = false := by decide) : TcN X (.Name x p) (.bt T) := ⟨pe_bltn (v := .ty T) hg hm hv rfl hn hd⟩
theorem isA_sim {K : PySem.W.Frag} {a : Addr} {i : Nat} {b : Bool} {te : TE} (k : ∀ (σ : L2.St) (G H : Hp) (Q : VK), Same G H → σ.getD i none = some (.ref a) → (∀ G' H', Grow G H G' H' → Q (.bl b) H') → te σ H Q) : SimE K E C te (isED a i b) := by
  intro G0 H0 G H σ ρ Q I h
  obtain ⟨len, bb, w, hw⟩ := I
  unfold isED at h
  cases e : ρ[i]? with
  | none => rw [e] at h; exact h.elim
  | some en =>
    rw [e] at h
    cases en with
    | vv v =>
      simp only at h
      by_cases c : v = .ref a
      · rw [if_pos c] at h
        subst c
        exact k σ G H Q bb.s (hw i _ e) fun G' H' g => h _ G' H' g (.bl b)
      · rw [if_neg c] at h; exact h.elim
    | _ => exact h.elim
theorem se_isA {f : Xf} {a : Addr} {x : Str} {T : Tc} {te : Expr} {p q pos : Pos} (i : Nat) (b : Bool) (F : XfOk X.K f) (hp : InHand X a (He.ga X.K f.c)) (hT : TcN X te T) (hmem : (T, b) ∈ f.isa) (hg : Gl X "isinstance") (hm : X.mg "isinstance" = none) (hN : X.N[i]? = some x := by rfl) (hv : Vis X.env.scope x := by first | exact Or.inl rfl | exact Or.inr (Or.inl rfl) | exact Or.inr (Or.inr rfl)) (hd : (x == ("__debug__" : Str)) = false := by decide) (hcd : (x == ("__classdict__" : Str)) = false := by decide)
    (na : starEach [.Name x q, te] X.env = (false, eval (.Name x q) X.env) :: starEach [te] X.env := by rfl) (nb : starEach [te] X.env = (false, eval te X.env) :: starEach [] X.env := by rfl) (hpl : (backTo pos (starEach [te] X.env)).any (·.1) = false := by rfl) :
    SE X E C (.Call (.Name "isinstance" p) [.Name x q, te] [] pos) (isED a i b) := by
  refine ⟨_, pe_callB (call_isA F.C hp) hg hm (by decide +kernel) (pa_cons (pe_var hN hv hd hcd) (pa_cons hT.p pa_nil nb) na) (he := na) (hpl := hpl), isA_sim fun σ G H Q s hs k => ?_⟩
  exact ⟨.ref a, getD_some hs, T.v X.K, b, rfl, .inl ⟨_, T.cls X.K, F.isa _ hmem⟩, k G H (Grow.refl s)⟩
structure TcNs (X : Cx) (es : List Expr) (ts : List Tc) : Prop where
  p : ∃ t : TA, PA X es t ∧ ∀ σ H Q, Q (ts.map fun t => t.v X.K) H → t σ H Q
theorem tcs_nil : TcNs X [] [] := ⟨_, pa_nil, fun σ H Q h => h⟩
theorem tcs_cons {e : Expr} {es : List Expr} {t : Tc} {ts : List Tc} (h : TcN X e t) (r : TcNs X es ts) (hs : starEach (e :: es) X.env = (false, eval e X.env) :: starEach es X.env := by rfl) : TcNs X (e :: es) (t :: ts) := by
  obtain ⟨ta, pa, sa⟩ := r
  exact ⟨_, pa_cons h.p pa hs, fun σ H Q q => sa σ H _ q⟩
theorem paired_tc (K : PySem.W.Frag) : ∀ ps : List (Tc × Bool), Paired ClsV (ps.map fun p => p.1.v K) (ps.map fun p => p.1.val K)
  | [] => .nil
  | p :: ps => .cons (p.1.cls K) (paired_tc K ps)
theorem se_isAT {f : Xf} {a : Addr} {x : Str} {es : List Expr} {kk : Nat} {p q tp pos : Pos} (i : Nat) (ps : List (Tc × Bool)) (F : XfOk X.K f) (hp : InHand X a (He.ga X.K f.c)) (hT : TcNs X es (ps.map (·.1))) (hmem : ∀ p ∈ ps, p ∈ f.isa) (hlen : ps.length ≤ 100) (hg : Gl X "isinstance") (hm : X.mg "isinstance" = none) (hN : X.N[i]? = some x := by rfl) (hv : Vis X.env.scope x := by first | exact Or.inl rfl | exact Or.inr (Or.inl rfl) | exact Or.inr (Or.inr rfl)) (hd : (x == ("__debug__" : Str)) = false := by decide) (hcd : (x == ("__classdict__" : Str)) = false := by decide)
    (na : starEach [.Name x q, .Tuple es kk tp] X.env = (false, eval (.Name x q) X.env) :: starEach [.Tuple es kk tp] X.env := by rfl) (nb : starEach [.Tuple es kk tp] X.env = (false, eval (.Tuple es kk tp) X.env) :: starEach [] X.env := by rfl) (hpl : (backTo pos (starEach [.Tuple es kk tp] X.env)).any (·.1) = false := by rfl) :
    SE X E C (.Call (.Name "isinstance" p) [.Name x q, .Tuple es kk tp] [] pos) (isED a i (ps.any fun p => p.2)) := by
  obtain ⟨ta, pa, sa⟩ := hT
  refine ⟨_, pe_callB (call_isA F.C hp) hg hm (by decide +kernel) (pa_cons (pe_var hN hv hd hcd) (pa_cons (pe_tup pa) pa_nil nb) na) (he := na) (hpl := hpl), isA_sim fun σ G H Q s hs k => ?_⟩
  refine ⟨.ref a, getD_some hs, sa σ H _ ⟨?_, fun tp hn => ?_⟩⟩
  · rw [List.length_map, List.length_map]; exact le_line (by omega)
  · refine ⟨.ref tp, _, rfl, .inr ⟨tp, _, _, rfl, upd_same, ?_, kitAny_of ps fun p hp => F.isa p (hmem p hp)⟩, k G _ (Grow.new s hn)⟩
    have := paired_tc X.K ps
    rw [List.map_map]
    exact this
end

/-! ### a def called within the suite, with the exception in hand -/
structure FnE (P : Program) (w : World) (K : PySem.W.Frag) (mg : Str → Option Value) (base : Heap) (k : Nat) (f : Addr) (fd : FuncData) (x : Str) (D : Addr) (b : Bool) : Prop where
  run : ∀ (A : Around) (outer : List PySem.Env) (s : Shared) (G H : Hp) (args : Args) (us : List Value) (Q : VK) (E : XK) (p : Addr × Obj), L2H.RoomH k A → L2H.PinOk outer H s p → Zc (.ref D) none p.2 → (∃ vs, p.2.data = .fields vs) → Env0 P w K mg base A outer s H → BindsTo s fd args ([x].zip us) → Vals [.ref p.1] us →
    Same G H → (∀ G' H', Grow G H G' H' → Q (.bl b) H') → codeAny (model P w) A (.call (.ref f) args) (CR (L2N.CX P w) outer P w H s Q E) s
def cxE (P : Program) (w : World) (K : PySem.W.Frag) (mg : Str → Option Value) (base : Heap) (N : List Str) (qual : Str) (scope : Scope) (f : Addr) (cd : Value) (A : Around) (outer : List PySem.Env) (s : Shared) (H : Hp) (E : XK) (p : Addr × Obj) : Cx := L2H.cxH (L2N.CX P w) P w K mg base N qual scope f cd A outer s H E p
theorem fnE_of {P : Program} {w : World} {K : PySem.W.Frag} {mg : Str → Option Value} {base : Heap} {C : CM} {x qual : Str} {params : Arguments} {body : List Stmt} {scope : Scope} {f : Addr} {fd : FuncData} {N ps : List Str} {k : Nat} {y : Str} {D : Addr} {b : Bool} {den : Addr → SD} (F : FunD K x qual params body scope [] [] f fd) (S : FnScope N ps scope) (hn : ps = [y])
    (hden : ∀ a, den a (.vv (.ref a) :: List.replicate (N.length - 1) Ent.no) = .rt (.im (.bool b)))
    (hbody : ∀ (cdv : Value) (A : Around) (outer : List PySem.Env) (s : Shared) (H : Hp) (E : XK) (p : Addr × Obj), L2H.RoomH k (A.deeper (envOfC qual scope s.heap.objs.size f cdv)) → Zc (.ref D) none p.2 → (∃ vs, p.2.data = .fields vs) →
      SB (L2H.cxH (L2N.CX P w) P w K mg base N qual scope f cdv A outer s H E p) E C body (den p.1)) :
    FnE P w K mg base (k + 1) f fd y D b := by
  obtain ⟨⟨oc, od, dV, kV, doc, pm, an, cdv, ct, osl, rfl, lk, hcd, _⟩, _⟩ := F
  subst hn
  refine ⟨fun A outer s G H args us Q E p hr hpin hz hf e0 hb r sm hq => ?_⟩
  have KX : K.In s.heap := e0.mod.kin.keeps fun b o e => (e0.bs b o e).1
  have lim : s.heap.NoLimit := e0.mod.nolimit.keeps fun b o e => (e0.bs b o e).1
  have hkind : ∀ z ∈ [y].zip us, scope.names.lookup z.1 = some .local ∨ (scope.names.lookup z.1 = some .cell ∧ ((cellsFrom (s.heap.objs.size + 1) scope.names []).lookup z.1).isSome = true) := fun ⟨n, v⟩ hy => by
    rcases S.par n (List.of_mem_zip hy).1 with q | q
    · exact .inl q
    · exact .inr ⟨q, PySem.W.cellsFrom_some _ _ _ (.inl q)⟩
  refine codeAny_call_function hr.depth (KX _ _ lk) rfl S.co S.gen rfl (PySem.W.codeRec_of KX hcd) (hb _ _ _ _ ?_)
  refine wpAny_newFunctionEnv_cells S.kind hkind fun env he s1 x1 => ?_
  subst he
  refine ⟨lim.keeps x1.toInCall.keep, codeAny_func ?_⟩
  obtain ⟨t, ht, sim⟩ := hbody cdv A outer s H E p (hr.deeper _) hz hf
  have I := L2H.inv_startH (CX := L2N.CX P w) (E := E) S hpin e0 rfl r x1
  have hNl : 1 ≤ N.length := by
    have := congrArg List.length S.pre
    rw [List.length_take, List.length_singleton] at this
    omega
  have J : EnvOk K G H G H (L2.start N [.ref p.1]) (.vv (.ref p.1) :: List.replicate (N.length - 1) Ent.no) := by
    refine ⟨by simp [L2.start], Grow.refl sm, fun _ => none, fun i e he => ?_⟩
    cases i with
    | zero => cases he; rfl
    | succ i =>
      have e2 := List.mem_of_getElem? (show (List.replicate (N.length - 1) Ent.no)[i]? = some e from by simpa using he)
      rw [List.mem_replicate] at e2
      rw [e2.2]
      trivial
  have hq2 : t { nx := fun _ H' => Q .non H', rt := Q } (L2.start N [.ref p.1]) H := by
    refine sim G H G H _ _ _ J ?_
    rw [hden]
    intro v G' H' g hr
    cases hr
    exact hq G' H' g
  refine wpAny_mono (ht.run [] s1 (L2.start N [.ref p.1]) H _ I hq2) (fun fl s' hs => ?_) fun e s' hs => hs
  have fin : ∀ {σ' : L2.St} {H' : Hp} {v : V} {u : Value}, Inv (L2H.cxH (L2N.CX P w) P w K mg base N qual scope f cdv A outer s H E p) [] σ' H' s' → RelV v u → Q v H' → CE outer P w H s Q u s' :=
    fun {σ' H' v u} J rv q => ⟨v, H', J.os, J.bare, J.base, J.hok, rv, q⟩
  cases fl with
  | ret u =>
    obtain ⟨v, σ', H', J, rv, q⟩ := hs
    exact fin J rv q
  | next =>
    obtain ⟨σ', H', J, q⟩ := hs
    exact fin (v := V.non) (u := Value.none) J rfl q
  | brk =>
    obtain ⟨_, _, _, q⟩ := hs
    exact False.elim q
  | cont =>
    obtain ⟨_, _, _, q⟩ := hs
    exact False.elim q
end Z

/-! ## ZJ -/
set_option Elab.async false
set_option linter.all false
set_option maxRecDepth 100000
set_option maxHeartbeats 2000000
namespace Z
open PySem PySem.Spec PyProof.Rows L2
theorem isED_set (a : Addr) (i : Nat) (b : Bool) (ρ : Env) : isED a i b (ρ.set i (.vv (.ref a))) = if i < ρ.length then .ok (.im (.bool b)) else .st := by
  unfold isED
  by_cases h : i < ρ.length
  · rw [List.getElem?_set_self h, if_pos h]
    simp
  · rw [List.getElem?_eq_none (by simp; omega), if_neg h]
theorem fa_nil {α : Type} {P : α → Prop} : ∀ p ∈ ([] : List α), P p := fun _ h => nomatch h
theorem fa_cons {α : Type} {P : α → Prop} {a : α} {l : List α} (h : P a) (hr : ∀ p ∈ l, P p) : ∀ p ∈ a :: l, P p := fun p hp => by
  rcases List.mem_cons.mp hp with rfl | hp
  · exact h
  · exact hr p hp
theorem su_cases {β : Type} {P : String → β → Prop} {l : List (String × β)} (h : ∀ p ∈ l, P p.1 p.2) : ∀ c s, l.lookup c = some s → P c s := fun c s e => by
  induction l with
  | nil => cases e
  | cons p l ih =>
    obtain ⟨x, y⟩ := p
    rw [List.lookup_cons] at e
    cases q : c == x with
    | true =>
      rw [q] at e
      cases e
      have := eq_of_beq q
      subst this
      exact h _ List.mem_cons_self
    | false =>
      rw [q] at e
      exact ih (fun p hp => h p (List.mem_cons_of_mem _ hp)) e
/-! ### nothing may be raised -/
def EF : XK := fun _ _ _ => False
theorem passesF {X : Cx} : Passes (L2N.CX X.prog X.w) X EF := fun pins σ H s e s' I c => by
  obtain ⟨_, _, _, _, _, _, _, _, _, _, _, _, h⟩ := c
  exact h.elim
section
variable {X : Cx} {E : XK} {C : CM}
theorem pe_callE {k i : Nat} {f a D : Addr} {fd : FuncData} {x y n : Str} {b : Bool} {p q pos : Pos} (F : FnE X.prog X.w X.K X.mg X.base k f fd y D b) (hr : L2H.RoomH k X.A) (hp : InHand X a D) (hg : Gl X x) (hm : X.mg x = some (.ref f)) (hk : PySem.W.keepIn X.K (.ref f) = true) (hb : Binds X.K fd [y] []) (hx : Passes (L2N.CX X.prog X.w) X E)
    (hN : X.N[i]? = some n) (hv : Vis X.env.scope n) (hd : (n == ("__debug__" : Str)) = false) (hcd : (n == ("__classdict__" : Str)) = false)
    (hdb : (x == ("__debug__" : Str)) = false := by decide) (he : starEach [.Name n q] X.env = (false, eval (.Name n q) X.env) :: starEach [] X.env := by rfl) (hpl : (backTo pos (starEach [] X.env)).any (·.1) = false := by rfl) :
    PE X (.Call (.Name x p) [.Name n q] [] pos) (fun σ H Q => tVar i σ H fun v H1 => v = .ref a ∧ ∃ G, Same G H1 ∧ ∀ G' H', Grow G H1 G' H' → Q (.bl b) H') := by
  refine ⟨fun pins s σ H Q I h => ?_⟩
  refine wpAny_Call_Name_kw (ld_glob I hg hm ?_ hdb)
  have pa : PA X [.Name n q] (tCons (tVar i) tNil) := pa_cons (pe_var hN hv hd hcd) pa_nil he
  have h2 : tCons (tVar i) tNil σ H fun vs H1 => ∃ v, vs = [v] ∧ v = .ref a ∧ ∃ G, Same G H1 ∧ ∀ G' H', Grow G H1 G' H' → Q (.bl b) H' := by
    obtain ⟨v, e, r⟩ := h
    exact ⟨v, e, v, rfl, r⟩
  refine PySem.W.callWith_K (h₀ := X.base) I.ok.mod.kin hk (thn (pa.run pos pins s σ H _ I h2) fun us s1 ⟨vs, H1, I1, r, q⟩ => ⟨I1.kIn, ?_⟩) he hpl
  obtain ⟨v, rfl, rfl, G, sm, q⟩ := q
  obtain ⟨oe, hmem, hz, hvs⟩ := hp
  have P1 := I1.pin (a, oe) (List.mem_append_left _ hmem)
  have hpin : L2H.PinOk X.stack H1 s1 (a, oe) := ⟨P1.1, P1.2.1, fun hm => (List.mem_cons.mp (I1.stkSub a hm)).elim P1.2.2.1 P1.2.2.2.1, P1.2.2.2.2⟩
  have hl : us.length = 1 := r.length.symm
  have bb := hb s1 us I1.kIn (by rw [List.append_nil]; exact hl)
  rw [List.append_nil] at bb
  refine wpAny_call (codeAny_mono (F.run X.A X.stack s1 G H1 ⟨us, []⟩ us Q E (a, oe) hr hpin hz hvs I1.env0 bb r sm q) fun r s' hq => ?_)
  cases r with
  | error e => exact hx pins σ H1 s1 e s' I1 hq
  | ok fl =>
    cases fl with
    | ret u => exact I1.after hq
    | next => exact False.elim hq
    | brk => exact False.elim hq
    | cont => exact False.elim hq
/-- a def of the text that is called with the exception in hand -/
structure CalE (P : Program) (w : World) (K : PySem.W.Frag) (mg : Str → Option Value) (base : Heap) (x : Str) (k : Nat) (y : Str) (D : Addr) (b : Bool) : Prop where
  p : ∃ (f : Addr) (fd : FuncData), FnE P w K mg base k f fd y D b ∧ mg x = some (.ref f) ∧ PySem.W.keepIn K (.ref f) = true ∧ Binds K fd [y] []
theorem roomH {k j : Nat} {A : Around} {v : Option Value} (hr : Room k A) (h : j ≤ k) : L2H.RoomH j (A.mark v) := (show L2H.RoomH k (A.mark v) from ⟨hr.dp, hr.un⟩).mono h
theorem se_callE {k : Nat} {a D : Addr} {x y n : Str} {b : Bool} {p q pos : Pos} (i : Nat) (G : CalE X.prog X.w X.K X.mg X.base x k y D b) (hr : L2H.RoomH k X.A) (hp : InHand X a D) (hx : Passes (L2N.CX X.prog X.w) X E) (hN : X.N[i]? = some n := by rfl) (hv : Vis X.env.scope n := by first | exact Or.inl rfl | exact Or.inr (Or.inl rfl) | exact Or.inr (Or.inr rfl)) (hd : (n == ("__debug__" : Str)) = false := by decide) (hcd : (n == ("__classdict__" : Str)) = false := by decide)
    (hg : Gl X x := by rfl) (hdb : (x == ("__debug__" : Str)) = false := by decide) (he : starEach [.Name n q] X.env = (false, eval (.Name n q) X.env) :: starEach [] X.env := by rfl) (hpl : (backTo pos (starEach [] X.env)).any (·.1) = false := by rfl) :
    SE X E C (.Call (.Name x p) [.Name n q] [] pos) (isED a i b) := by
  obtain ⟨f, fd, F, hm, hkp, hb⟩ := G.p
  exact ⟨_, pe_callE F hr hp hg hm hkp hb hx hN hv hd hcd hdb he hpl, isA_sim fun σ G H Q s hs k => ⟨.ref a, getD_some hs, rfl, G, s, k⟩⟩

/-! ### try: f(..), except D as e: suite -/
def tryD (f : List PD → Out R) (a : AD) (i : Nat) (su : String → Option (Addr → SD)) : SD := fun ρ => match noX (a ρ) with
  | .ok rs => if rs.all R.isIm then match f (rs.map R.dat) with
    | .ok _ => .nx ρ
    | .ex c => match su c with
      | some s => match s 0 (ρ.set i (.vv (.ref 0))) with
        | .nx ρ' => .nx (ρ'.set i .no)
        | .rt r => .rt r
        | _ => .st
      | none => .st
    | .st => .st
    else .st
  | _ => .st
theorem ss_try {k kk n i : Nat} {ps : List Str} {fn : List PD → Out R} {x nm cx : Str} {cv : Value} {e : Expr} {es : List Expr} {a : AD} {b₀ : Stmt} {suite : List Stmt} {p cpos epos np pos' pos : Pos} (su : String → Option (Addr → SD)) (G : Cal X.prog X.w X.K X.mg X.base C x k n ps fn) (hr : Room kk X.A) (hk : k ≤ kk)
    (hl : ALen a n) (ha : ∀ pn xe, SA (X.tr pn xe) EF C (e :: es) a) (hs : X.stack = X.env :: X.outer) (hf : X.env.frame = some X.env.locals) (hN : X.N.Nodup) (hi : X.N[i]? = some nm) (hln : X.env.kindOf nm = some .local) (hc : Names X cx cv) (tk : L2N.Takes X (fun cls d _ H => E cls d H))
    (hcat : ∀ c s, su c = some s → PySem.W.exmOne X.K (C c) cv = some true)
    (hsu : ∀ c s, su c = some s → ∀ a oe pn, L2N.Zn (C c) none oe → (∃ vs, oe.data = .fields vs) → SB (X.suite a ((a, oe) :: pn)) EF C (b₀ :: suite) (s a))
    (hind : ∀ c s, su c = some s → ∀ (a : Addr) (ρ : Env), s a (ρ.set i (.vv (.ref a))) = s 0 (ρ.set i (.vv (.ref 0))))
    (hg : Gl X x := by rfl) (hdb : (x == ("__debug__" : Str)) = false := by decide) (he : starEach (e :: es) X.env = (false, eval e X.env) :: starEach es X.env := by rfl) (hpl : (backTo cpos (starEach es X.env)).any (·.1) = false := by rfl)
    (hsw : swapsWith (.Call (.Name x p) (e :: es) [] cpos) none epos.line X.env = pure false := by rfl) :
    SS X E C (.Try [.Expr (.Call (.Name x p) (e :: es) [] cpos) epos] [.ExceptHandler (some (.Name cx np)) (some nm) (b₀ :: suite) pos'] [] [] pos) (tryD fn a i su) := by
  obtain ⟨f, fd, F, hm, hkp, hb⟩ := G.p
  let taS : TA := fun σ H Q => ∀ pn xe, Classical.choose (ha pn xe).p σ H Q
  have paS : ∀ pn xe, PA (X.tr pn xe) (e :: es) taS := fun pn xe => ⟨fun pos pins s σ H Q I h => (Classical.choose_spec (ha pn xe).p).1.run pos pins s σ H Q I (h pn xe)⟩
  have saS : SimA X.K EF C taS a := fun G0 H0 G H σ ρ Q I h pn xe => (Classical.choose_spec (ha pn xe).p).2 G0 H0 G H σ ρ Q I h
  let tsS : Addr → Value → Option Addr → TS := fun a cls d D σ H => ∃ c s, ∃ h : su c = some s, ∃ e1 : cls = C c, ∃ e2 : d = none, ∀ oe pn (hz : L2N.Zn (C c) none oe) (hv : ∃ vs, oe.data = .fields vs), Classical.choose (hsu c s h a oe pn hz hv).p D σ H
  have psS : ∀ (a : Addr) (oe : Obj) (cls : Value) (d : Option Addr) (pn : List (Addr × Obj)), L2N.Zn cls d oe → (∃ vs, oe.data = .fields vs) → PSs (X.suite a ((a, oe) :: pn)) (b₀ :: suite) (tsS a cls d) := fun a oe cls d pn hz hv => ⟨fun pins s σ H D I h => by
    obtain ⟨c, s1, h1, rfl, rfl, q⟩ := h
    exact (Classical.choose_spec (hsu c s1 h1 a oe pn hz hv).p).1.run pins s σ H D I (q oe pn hz hv)⟩
  refine ⟨_, L2N.ps_try_as (tb := fun W D σ H => tCallSD (SpF X.K C n fn) [] (fun σ cls d H => W cls d σ H) taS σ H fun _ H1 => D.nx σ H1) (ts := tsS) hs hf hN hi hln hc tk (fun W pn xe tk' _ => ?_) psS, fun G0 H0 G H σ ρ D I h => ?_⟩
  · exact pss_one (ps_expr (pe_callSD (X := X.tr pn xe) (CX := L2N.CX X.prog X.w) F (hr.mono hk) hg hm hkp hb .nil (fun σ pins H s u s' I c => tk' u s' (L2N.XE.of_call I (fun cls d H' h => h) c)) (paS pn xe) hdb he hpl) hsw)
  · show taS σ H fun vs H1 => SpF X.K C n fn (vs ++ []) H1 (fun _ H2 => D.nx σ H2) fun cls d H2 => wAs X.K cv i tsS (fun cls d _ H => E cls d H) D cls d σ H2
    unfold tryD at h
    refine saS G0 H0 G H σ ρ _ I ?_
    cases ea : a ρ with
    | ex c => rw [ea] at h; exact h.elim
    | st => rw [ea] at h; exact h.elim
    | ok rs =>
      rw [ea] at h
      simp only [noX] at h
      intro vs G1 H1 g1 k1
      by_cases c : rs.all R.isIm = true
      · rw [if_pos c] at h
        rw [List.append_nil]
        have I1 := I.grow g1
        refine ⟨G1, rs.map R.dat, I1.s, k1.ims (ims_all c), by rw [List.length_map]; exact hl.l _ _ ea, ?_⟩
        cases ef : fn (rs.map R.dat) with
        | ok r => rw [ef] at h; exact fun v G' H' g hr => h σ G' H' (g1.g.trans g.g) (I1.grow g)
        | st => rw [ef] at h; exact h.elim
        | ex c =>
          rw [ef] at h
          simp only at h
          intro G' H' g
          cases es : su c with
          | none => rw [es] at h; exact h.elim
          | some s =>
            rw [es] at h
            simp only at h
            refine ⟨true, hcat c s es, fun _ b hb => ⟨c, s, es, rfl, rfl, fun oe pn hz hv => ?_⟩, fun z => nomatch z⟩
            have I2 := I1.grow g
            have I3 : EnvOk X.K G0 H0 G' H' (σ.set i (some (.ref b))) (ρ.set i (.vv (.ref b))) := I2.put fun w hw => ⟨w, rfl, fun j e _ h => hw j e h⟩
            refine (Classical.choose_spec (hsu c s es b oe pn hz hv).p).2 G0 H0 G' H' _ _ _ I3 ?_
            rw [hind c s es]
            have s2 := g1.g.trans g.g
            cases eo : s 0 (ρ.set i (.vv (.ref 0))) with
            | nx ρ' => rw [eo] at h; exact fun σ4 G4 H4 s4 I4 => h _ G4 H4 (s2.trans s4) (I4.setNo i)
            | rt r => rw [eo] at h; exact fun v G4 H4 g4 hr => h v G4 H4 g4 hr
            | rv r ρ' => rw [eo] at h; exact h.elim
            | ev r ρ' => rw [eo] at h; exact h.elim
            | ex c => rw [eo] at h; exact h.elim
            | bk ρ' => rw [eo] at h; exact h.elim
            | ct ρ' => rw [eo] at h; exact h.elim
            | st => rw [eo] at h; exact h.elim
      · rw [if_neg c] at h; exact h.elim
end
end Z

/-! ## ZK -/
set_option Elab.async false
set_option linter.all false
set_option maxRecDepth 100000
set_option maxHeartbeats 2000000
namespace Z
open PySem PySem.Spec PyProof.Rows L2
section
variable {X : Cx} {E : XK} {C : CM}
/-! ### {} -/
@[simp] def empD : ED := fun _ => .ok (.im (.dict []))
theorem se_emp {pos : Pos} : SE X E C (.Dict [] [] pos) empD := ⟨_, pe_dnewK, fun G0 H0 G H σ ρ Q I h p hp => h _ _ _ (Grow.newK I.s hp) (.emp upd_same)⟩
/-! ### xs * n -/
def repL (k : Nat) (ds : List PD) : List PD := (List.replicate k ds).flatten
def repD (a b : ED) : ED := fun ρ => (a ρ).bind fun r1 => (b ρ).bind fun r2 => match kids r1.fz, r2.dat with
  | some ds, .int k => if -1000 ≤ k ∧ k ≤ 1000 ∧ ds.length ≤ 100 then .ok (.fr 0 (repL k.toNat ds)) else .st
  | _, _ => .st
theorem RpA.rep {K : PySem.W.Frag} {G : Hp} {vs : List V} {ds : List PD} (h : RpA K G vs ds) : ∀ k : Nat, RpA K G (List.replicate k vs).flatten (repL k ds)
  | 0 => .nil
  | k + 1 => by
    unfold repL
    rw [List.replicate_succ, List.replicate_succ, List.flatten_cons, List.flatten_cons]
    exact h.append (RpA.rep h k)
theorem se_rep {a b : Expr} {da db : ED} {pos : Pos} (ha : SE X E C a da) (hb : SE X E C b db) : SE X E C (.BinOp a .Mult b pos) (repD da db) := by
  obtain ⟨ta, pa, sa⟩ := ha
  obtain ⟨tb, pb, sb⟩ := hb
  refine ⟨_, pe_op op_rep pa pb, ?_⟩
  intro G0 H0 G H σ ρ Q I h
  unfold repD at h
  refine sa.useF famO I h fun r1 x G1 H1 e1 g1 I1 k1 h1 => ?_
  refine sb.use famO I1 h1 fun r2 y G2 H2 e2 g2 I2 k2 h2 => ?_
  have p2 := k2.rp I2.s
  split at h2
  · rename_i ds k q1 q2
    rw [q2] at p2
    cases p2
    split at h2
    · rename_i c
      obtain ⟨p, vs, rfl, hp, rv⟩ := (k1.grow g2).kids I2.s q1
      have l1 := rv.length
      refine ⟨p, k, vs, rfl, rfl, hp, by omega, by omega, ?_, fun q hq => h2 _ G2 _ (Grow.new I2.s hq) (fresh_list (rv.rep _) hq I2.s)⟩
      have h1 : vs.length ≤ 100 := by omega
      have h2 : k.toNat ≤ 1000 := by omega
      exact le_line (Nat.mul_le_mul h1 h2)
    · exact h2.elim
  · exact h2.elim
/-! ### tuple(xs) -/
@[simp] def tuplD (a : AD) : ED := fun ρ => (a ρ).bind fun rs => match rs with
  | [r] => match kidsT r with
    | some ds => .ok (.im (.tuple ds))
    | none => .st
  | _ => .st
theorem se_tuple {e : Expr} {es : List Expr} {a : AD} {p pos : Pos} (hg : Gl X "tuple") (hm : X.mg "tuple" = none) (ha : SA X E C (e :: es) a)
    (he : starEach (e :: es) X.env = (false, eval e X.env) :: starEach es X.env := by rfl) (hpl : (backTo pos (starEach es X.env)).any (·.1) = false := by rfl) :
    SE X E C (.Call (.Name "tuple" p) (e :: es) [] pos) (tuplD a) := by
  obtain ⟨ta, pa, sa⟩ := ha
  refine ⟨_, pe_callTy call_tuple_of hg hm boot_tuple pa (he := he) (hpl := hpl), ?_⟩
  intro G0 H0 G H σ ρ Q I h
  refine sa.use famO I h fun rs vs G1 H1 e1 g1 I1 k1 h1 => ?_
  split at h1
  · rename_i r
    split at h1
    · rename_i ds q
      obtain ⟨v, rfl, k2⟩ := k1.one
      unfold Z.kidsT at q
      split at q
      · cases q
        cases k2 with
        | tup h3 h4 => exact ⟨_, _, rfl, .inr ⟨SqT.of (I1.s _ _ h3), h1 _ G1 H1 (Grow.refl I1.s) (.tup h3 h4)⟩⟩
      · obtain ⟨a, us, rfl, hs, ru⟩ := ROk.kidsS I1.s k2 q
        exact ⟨a, us, rfl, .inl ⟨hs, fun l hl => h1 _ _ _ (Grow.newK I1.s hl) (.tup upd_same (ru.up (same_upd (I1.s.free hl))))⟩⟩
    · exact h1.elim
  · exact h1.elim
end
end Z

/-! ## ZL -/
set_option Elab.async false
set_option linter.all false
set_option maxRecDepth 100000
set_option maxHeartbeats 2000000
namespace Z
open PySem PySem.Spec PyProof.Rows L2
section
variable {X : Cx} {E : XK} {C : CM}
/-! ### in a tuple, ints -/
def inTI : PD → PD → Option PD := fun d e => match d, e with
  | .int i, .tuple ds => (intsOf ds).map fun ns => .bool (decide (i ∈ ns))
  | _, _ => none
theorem inV_ints (i : Int) (ns : List Int) : inV (.int i) (ns.map V.int) = decide (i ∈ ns) := by
  unfold inV
  induction ns with
  | nil => rfl
  | cons n ns ih =>
    rw [List.map_cons, List.any_cons, ih]
    by_cases h : n = i
    · subst h
      simp [eqV]
    · have h2 : ¬ i = n := fun e => h e.symm
      have h3 : (n == i) = false := beq_false_of_ne h
      simp [eqV, h2, h3]
theorem flatV_ints (ns : List Int) : (ns.map V.int).all flatV = true := by
  rw [List.all_map, List.all_eq_true]
  intro x _
  rfl
theorem lk_inT {K : PySem.W.Frag} : Lk2 K (rIn K false) inTI := by
  intro H x y d e z Q hx hy hf
  unfold inTI at hf
  split at hf
  · rename_i i ds
    obtain ⟨ns, e1, e2⟩ := Option.map_eq_some_iff.mp hf
    subst e2
    have := intsOf_eq e1
    subst this
    cases hx
    cases hy with
    | tup h1 h2 =>
      rw [h2.ints] at h1
      exact ⟨_, rfl, fun q => ⟨_, _, rfl, .inr (SqT.of h1), rfl, flatV_ints ns, by rw [inV_ints]; exact q⟩⟩
  · cases hf
end
/-! ### is True, of a truth -/
def isBF : PD → PD → Option PD := fun d e => match d, e with
  | .bool a, .bool b => some (.bool (a == b))
  | _, _ => none
theorem lk_isB {K : PySem.W.Frag} : Lk2 K rIsB isBF := by
  intro H x y d e z Q hx hy hf
  unfold isBF at hf
  split at hf
  · cases hf
    cases hx
    cases hy
    exact ⟨_, rfl, fun q => ⟨_, _, rfl, rfl, q⟩⟩
  · cases hf
/-! ### the lists within become known for ever -/
def frz1D (i : Nat) : SD := fun ρ => match ρ[i]? with
  | some (.ow (n + 1) t) => .nx (ρ.set i (.ow 0 (@List.map (Ty (n + 1)) PD (Ty.dat (n + 1)) t)))
  | _ => .nx ρ
theorem EnvOk.freeze1 {K : PySem.W.Frag} {G0 H0 G H : Hp} {σ : L2.St} {ρ : Env} {i n : Nat} {t : Ty (n + 2)} (I : EnvOk K G0 H0 G H σ ρ) (hi : ρ[i]? = some (.ow (n + 1) t)) : ∃ G', Same G G' ∧ EnvOk K G0 H0 G' H σ (ρ.set i (.ow 0 (@List.map (Ty (n + 1)) PD (Ty.dat (n + 1)) t))) := by
  obtain ⟨len, b, w, hw⟩ := I
  obtain ⟨x, x1, x2, x3, x4, x5⟩ := hw i _ hi
  obtain ⟨A, ys⟩ : Addr × List (ATy (n + 1)) := x
  have ha : ∀ a ∈ ys.flatMap (ATy.adr (n + 1)), w a = some i ∧ G a = none ∧ H0 a = none := fun a h => x5 a (List.mem_cons_of_mem _ h)
  have hA := x5 A List.mem_cons_self
  have hs : Same G (know G H (ys.flatMap (ATy.adr (n + 1)))) := know_same b.s fun a h => (ha a h).2.1
  have nA : A ∉ ys.flatMap (ATy.adr (n + 1)) := fun h => by
    rw [List.mem_flatMap] at h
    obtain ⟨y, hy, h⟩ := h
    exact (x4.1 y hy).2 h
  refine ⟨know G H (ys.flatMap (ATy.adr (n + 1))), hs, by simp [len], ⟨b.g.trans hs, b.h, know_heap b.s, fun a o h1 h2 h3 => ?_⟩, w, fun j e he => ?_⟩
  · by_cases h : a ∈ ys.flatMap (ATy.adr (n + 1))
    · rw [(ha a h).2.2] at h1; cases h1
    · rw [know_out h]; exact b.m a o h1 h2 h3
  · by_cases c : i = j
    · subst c
      have hl : i < ρ.length := (List.getElem?_eq_some_iff.mp hi).1
      rw [List.getElem?_set_self hl] at he
      cases he
      refine ⟨((A, ys.map fun y => (ATy.val (n + 1) y, Ty.dat (n + 1) (ATy.era (n + 1) y))) : Addr × List (V × PD)), x1, ?_, ⟨?_, ?_⟩, ⟨?_, ?_⟩, ?_⟩
      · subst x2
        show List.map (fun z : V × PD => z.2) (ys.map fun y => (ATy.val (n + 1) y, Ty.dat (n + 1) (ATy.era (n + 1) y))) = List.map (Ty.dat (n + 1)) (ys.map (ATy.era (n + 1)))
        rw [List.map_map, List.map_map]
        rfl
      · show H A = some (.lst (List.map (fun z : V × PD => z.1) (ys.map fun y => (ATy.val (n + 1) y, Ty.dat (n + 1) (ATy.era (n + 1) y)))))
        rw [List.map_map]
        exact x3.1
      · intro z hz
        obtain ⟨y, hy, rfl⟩ := (List.mem_map (α := ATy (n + 1)) (β := V × PD)).mp hz
        exact ATy.known (n + 1) y (fun a h => know_in (List.mem_flatMap.mpr ⟨y, hy, h⟩)) hs (x3.2 y hy)
      · exact fun y _ => ⟨trivial, fun h => nomatch h⟩
      · exact List.pairwise_of_forall (fun _ _ a ha => nomatch ha)
      · intro a h
        have : a = A := by
          have h' : a ∈ (A :: (ys.map fun y => (ATy.val (n + 1) y, Ty.dat (n + 1) (ATy.era (n + 1) y)) : List (V × PD)).flatMap (fun _ => ([] : List Addr))) := h
          simpa using h'
        subst this
        exact ⟨hA.1, by rw [know_out nA]; exact hA.2.1, hA.2.2⟩
    · rw [List.getElem?_set_ne c] at he
      have h := hw j e he
      have out : ∀ a, w a = some j → a ∉ ys.flatMap (ATy.adr (n + 1)) := fun a h1 q => by
        rw [(ha a q).1] at h1
        exact c (Option.some.inj h1)
      cases e with
      | no => trivial
      | im d => obtain ⟨v, e1, e2⟩ := h; exact ⟨v, e1, e2.up hs⟩
      | vv v => exact h
      | ob a C fs =>
        obtain ⟨z1, z2, z3, dx, vs, z4, z5⟩ := h
        exact ⟨z1, z2, ⟨by rw [know_out (out a z2)]; exact z3.1, z3.2⟩, dx, vs, z4, z5.up hs⟩
      | ow m u =>
        obtain ⟨y, y1, y2, y3, y4, y5⟩ := h
        exact ⟨y, y1, y2, ATy.ok_mono hs (Same.refl _) _ _ y3, y4, fun a ha => ⟨(y5 a ha).1, by rw [know_out (out a (y5 a ha).1)]; exact (y5 a ha).2.1, (y5 a ha).2.2⟩⟩
theorem sb_frz1 {X : Cx} {E : XK} {C : CM} {b : List Stmt} {d : SD} (i : Nat) (hb : SB X E C b d) : SB X E C b (seqD (frz1D i) d) := by
  obtain ⟨tb, pb, sb⟩ := hb
  refine ⟨_, pb, fun G0 H0 G H σ ρ D I h => ?_⟩
  unfold seqD frz1D at h
  split at h
  · rename_i ρ' e
    split at e
    · rename_i n t q
      cases e
      obtain ⟨G', s', I'⟩ := I.freeze1 q
      exact sb G0 H0 G' H σ _ D I' (SOk.up h s')
    · cases e
      exact sb G0 H0 G H σ _ D I h
  · rename_i o e
    split at e
    · exact absurd rfl (e _)
    · exact absurd rfl (e _)
end Z

/-! ## ZM -/
set_option Elab.async false
set_option linter.all false
set_option maxRecDepth 100000
set_option maxHeartbeats 2000000
namespace Z
open PySem PySem.Spec PyProof.Rows L2
section
variable {X : Cx} {E : XK} {C : CM}
/-! ### the text of a small int -/
noncomputable def strI (i : Int) : Option Str := by classical exact if -100000 ≤ i ∧ i ≤ 100000 then some (Str.ofString (toString i)) else none
theorem small_log {i : Int} (h : -100000 ≤ i ∧ i ≤ 100000) : i.natAbs.log2 < 1920 := by
  have h1 : i.natAbs ≤ 100000 := by omega
  have h2 : i.natAbs < 2 ^ 17 := Nat.lt_of_le_of_lt h1 (by decide)
  by_cases c : i.natAbs = 0
  · rw [c]; decide
  · have := (Nat.log2_lt c).mpr h2
    omega
theorem strI_eq {i : Int} {y : Str} (h : strI i = some y) : i.natAbs.log2 < 1920 ∧ y = Str.ofString (toString i) := by
  unfold strI at h
  split at h
  · rename_i c
    cases h
    exact ⟨small_log c, rfl⟩
  · cases h
noncomputable def strF : List PD → Option PD
  | [.int i] => (strI i).map .str
  | _ => none
theorem lk_str {K : PySem.W.Frag} : LkC K (fun xs H Q => ∃ i, xs = [.int i] ∧ i.natAbs.log2 < 1920 ∧ Q (.str (toString i)) H) strF := by
  intro H xs ds z Q hx e
  unfold strF at e
  split at e
  · rename_i i
    obtain ⟨y, e1, e2⟩ := Option.map_eq_some_iff.mp e
    subst e2
    obtain ⟨h1, h2⟩ := strI_eq e1
    subst h2
    obtain ⟨x, rfl, r1⟩ := rpA_one hx
    cases r1
    exact ⟨_, rfl, fun q => ⟨_, rfl, h1, q⟩⟩
  · cases e
/-! ### f'{a}c' -/
noncomputable def fmtF : PD → Option Str
  | .str y => if y.length ≤ 1000 then some y else none
  | .int i => strI i
  | _ => none
noncomputable def fjD (a : ED) (c : Str) : ED := fun ρ => (a ρ).bind fun r => match fmtF r.dat with
  | some y => if y.length + c.length ≤ 100000 then .ok (.im (.str (y ++ c))) else .st
  | none => .st
theorem empty_app (y : Str) : Str.empty ++ y = y := TL.ext_tl (by rw [TL.tl_append]; rfl)
theorem len_app (x y : Str) : (x ++ y).length = x.length + y.length := strLen_append x y
theorem se_fj {e : Expr} {d : ED} {c : Str} {k : Nat} {p1 p2 pos : Pos} (he : SE X E C e d) : SE X E C (.JoinedStr [.FormattedValue e (-1) none p1, .Constant (.str c) k p2] pos) (fjD d c) := by
  obtain ⟨te, pe, se⟩ := he
  refine ⟨_, pe_joined (.cons (pe_fmt pe) (.cons pe_str .nil)), ?_⟩
  intro G0 H0 G H σ ρ Q I h
  unfold fjD at h
  refine se.use famO I h fun r x G1 H1 e1 g1 I1 k1 h1 => ?_
  have k := k1.rp I1.s
  cases q : fmtF r.dat with
  | none => rw [q] at h1; exact h1.elim
  | some y =>
    rw [q] at h1
    have h1' : OOk X.K E C G1 H1 Q (if y.length + c.length ≤ 100000 then .ok (.im (.str (y ++ c))) else .st) := h1
    split at h1'
    · rename_i hl
      have e0 : (Str.empty ++ y).length = y.length := by rw [empty_app]
      have e2 : ((Str.empty ++ y) ++ c).length = y.length + c.length := by rw [empty_app, len_app]
      have e3 : (Str.empty ++ y) ++ c = y ++ c := by rw [empty_app]
      have rest : ∃ z : Str, V.str y = .str z ∧ (Str.empty ++ z).length ≤ sizeLine ∧ (∃ z2 : Str, V.str c = .str z2 ∧ ((Str.empty ++ z) ++ z2).length ≤ sizeLine ∧ Q (.str ((Str.empty ++ z) ++ z2)) H1) :=
        ⟨y, rfl, by rw [e0]; exact le_line (by omega), c, rfl, by rw [e2]; exact le_line hl, by rw [e3]; exact h1' _ G1 H1 (Grow.refl I1.s) (.str _)⟩
      revert q k
      cases r.dat with
      | str z =>
        intro k q
        simp only [fmtF] at q
        split at q
        · rename_i hz
          cases q
          cases k
          exact .inl ⟨_, rfl, le_line (by omega), rest⟩
        · cases q
      | int i =>
        intro k q
        obtain ⟨l1, l2⟩ := strI_eq (i := i) q
        subst l2
        cases k
        exact .inr ⟨i, rfl, l1, rest⟩
      | none => intro k q; cases q
      | bool b => intro k q; cases q
      | list ds => intro k q; cases q
      | tuple ds => intro k q; cases q
      | dict ds => intro k q; cases q
    · exact h1'.elim
/-! ### c.join(xs) -/
def strsOf : List PD → Option (List Str)
  | [] => some []
  | .str i :: r => (strsOf r).map (i :: ·)
  | _ => none
theorem strsOf_eq : ∀ {ds : List PD} {ns : List Str}, strsOf ds = some ns → ds = ns.map PyData.str
  | [], _, h => by cases h; rfl
  | .str i :: r, ns, h => by
    simp only [strsOf, Option.map_eq_some_iff] at h
    obtain ⟨ms, h1, h2⟩ := h
    subst h2
    rw [strsOf_eq h1] <;> rfl
  | .none :: _, _, h => by simp [strsOf] at h
  | .bool _ :: _, _, h => by simp [strsOf] at h
  | .int _ :: _, _, h => by simp [strsOf] at h
  | .list _ :: _, _, h => by simp [strsOf] at h
  | .tuple _ :: _, _, h => by simp [strsOf] at h
  | .dict _ :: _, _, h => by simp [strsOf] at h
theorem strsOf_map (ns : List Str) : strsOf (ns.map PyData.str) = some ns := by
  induction ns with
  | nil => rfl
  | cons n ns ih => show (strsOf (ns.map PyData.str)).map (n :: ·) = _; rw [ih]; rfl
theorem RpA.strs {K : PySem.W.Frag} {G : Hp} {ns : List Str} {vs : List V} (h : RpA K G vs (ns.map PyData.str)) : vs = ns.map V.str := by
  induction ns generalizing vs with
  | nil => cases h; rfl
  | cons n ns ih =>
    cases h with
    | cons a b => cases a; rw [ih b]; rfl
def joinD (c : Str) (a : ED) : ED := fun ρ => (a ρ).bind fun r => match kidsS r.fz with
  | some ds => match strsOf ds with
    | some ys => if (ys.map (·.length)).sum + ys.length * c.length ≤ 100000 then .ok (.im (.str (Txt.join c ys))) else .st
    | none => .st
  | none => .st
theorem se_join {e : Expr} {d : ED} {c : Str} {k : Nat} {p1 apos pos : Pos} (he : SE X E C e d) (hs : starEach [e] X.env = [(false, eval e X.env)] := by rfl)
    (hline : (apos.endLine == pos.line) = true := by rfl) : SE X E C (.Call (.Attribute (.Constant (.str c) k p1) "join" apos) [e] [] pos) (joinD c d) := by
  obtain ⟨te, pe, se⟩ := he
  refine ⟨_, pe_join pe_str pe hs rfl hline, ?_⟩
  intro G0 H0 G H σ ρ Q I h
  refine ⟨⟨c, rfl⟩, ?_⟩
  unfold joinD at h
  refine se.useF famO I h fun r x G1 H1 e1 g1 I1 k1 h1 => ?_
  split at h1
  · rename_i ds q
    split at h1
    · rename_i ys q2
      split at h1
      · rename_i hl
        obtain ⟨a, vs, rfl, h2, h3⟩ := k1.kidsS I1.s q
        have := strsOf_eq q2
        subst this
        have := h3.strs
        subst this
        exact ⟨c, a, ys, rfl, rfl, .inl h2, Nat.le_trans hl (by decide), h1 _ G1 H1 (Grow.refl I1.s) (.str _)⟩
      · exact h1.elim
    · exact h1.elim
  · exact h1.elim
end
end Z

/-! ## ZN -/
set_option Elab.async false
set_option linter.all false
set_option maxRecDepth 100000
set_option maxHeartbeats 2000000
/-! list(zip(a, b)) of two lists -/
namespace Z
open PySem PySem.Spec PyProof.Rows L2
open PySem.Sem (wp)
/-- a zip object over two lists after i turns; S: the list that is made -/
def ZipS (h : Heap) (z TI TO i1 i2 l1 l2 : Addr) (xs ys : Array Value) (S : Addr) (i : Nat) : Prop :=
  IsPair h TI (.ref i1) (.ref i2) ∧ h.IsListIter i1 l1 i ∧ h.IsListIter i2 l2 i ∧ h.IsList l1 xs ∧ h.IsList l2 ys ∧
    ((IsZip h z TI TO .none ∧ ∃ a b, IsPair h TO a b) ∨ ∃ T f oT, IsZipHeld h z TI TO T f ∧ h.get? T = some oT ∧ T ≠ z ∧ T ≠ i1 ∧ T ≠ i2 ∧ T ≠ S)
theorem ZipS.keep {h h' : Heap} {z TI TO i1 i2 l1 l2 : Addr} {xs ys : Array Value} {S : Addr} {i : Nat} (x : ZipS h z TI TO i1 i2 l1 l2 xs ys S i) (hk : ∀ b o, b ≠ S → h.get? b = some o → h'.get? b = some o)
    (n : z ≠ S ∧ TI ≠ S ∧ TO ≠ S ∧ i1 ≠ S ∧ i2 ≠ S ∧ l1 ≠ S ∧ l2 ≠ S) : ZipS h' z TI TO i1 i2 l1 l2 xs ys S i := by
  obtain ⟨hTI, h1, h2, hl1, hl2, hz⟩ := x
  obtain ⟨nz, nTI, nTO, n1, n2, nl1, nl2⟩ := n
  refine ⟨hk _ _ nTI hTI, h1.at fun o e => hk _ o n1 e, h2.at fun o e => hk _ o n2 e, hl1.at fun o e => hk _ o nl1 e, hl2.at fun o e => hk _ o nl2 e, ?_⟩
  rcases hz with ⟨hz, a, b, hTO⟩ | ⟨T, f, oT, hz, hT, r1, r2, r3, r4⟩
  · exact .inl ⟨hk _ _ nz hz, a, b, hk _ _ nTO hTO⟩
  · exact .inr ⟨T, f, oT, hk _ _ nz hz, hk _ _ r4 hT, r1, r2, r3, r4⟩
section
variable {prog : Program} {w : World} {A : Around} {E : Value → Shared → Prop} {s : Shared} {z TI TO i1 i2 l1 l2 S : Addr} {xs ys : Array Value}
theorem zipS_item {i : Nat} {x y : Value} {Q : Option Value → Shared → Prop} (D : ZipApart z TI TO i1 i2 l1 l2) (st : ZipS s.heap z TI TO i1 i2 l1 l2 xs ys S i) (hS : S < s.heap.objs.size) (hx : xs[i]? = some x) (hy : ys[i]? = some y)
    (hQ : ∀ h', ZipS h' z TI TO i1 i2 l1 l2 xs ys S (i + 1) → IsPair h' s.heap.objs.size x y → h'.objs.size = s.heap.objs.size + 1 →
      (∀ c o, c ≠ z → c ≠ TO → c ≠ i1 → c ≠ i2 → s.heap.get? c = some o → h'.get? c = some o) → Q (some (.ref s.heap.objs.size)) { s with heap := h' }) :
    wpAny (model prog w) A (pyNext (.ref z)) Q E s := by
  obtain ⟨hTI, h1, h2, hl1, hl2, hz⟩ := st
  have lt : ∀ {c o}, s.heap.get? c = some o → s.heap.objs.size ≠ c := fun e => Nat.ne_of_gt (Heap.lt_size e)
  have n1 : s.heap.objs.size ≠ i1 := let ⟨_, e, _⟩ := h1; lt e
  have n2 : s.heap.objs.size ≠ i2 := let ⟨_, e, _⟩ := h2; lt e
  rcases hz with ⟨hz, a, b, hTO⟩ | ⟨T, f, oT, hz, hT, r1, r2, r3, r4⟩
  · exact wpAny_pyNext_zip_item D hz hTI hTO h1 h2 hl1 hl2 hx hy fun h' a1 a2 a3 a4 a5 a6 hk => hQ h'
      ⟨hk _ _ D.TIz D.TITO D.TIi1 D.TIi2 hTI, a3, a4, hl1.at fun o e => hk _ o D.l1z D.l1TO D.l1i1 D.l1i2 e, hl2.at fun o e => hk _ o D.l2z D.l2TO D.l2i1 D.l2i2 e,
        .inr ⟨s.heap.objs.size, false, _, a1, a5, lt hz, n1, n2, Nat.ne_of_gt hS⟩⟩ a5 a6 hk
  · exact wpAny_pyNext_zip_item_held D hz hT hTI h1 h2 hl1 hl2 hx hy fun h' a1 a3 a4 a5 a6 hk => hQ h'
      ⟨hk _ _ D.TIz D.TIi1 D.TIi2 hTI, a3, a4, hl1.at fun o e => hk _ o D.l1z D.l1i1 D.l1i2 e, hl2.at fun o e => hk _ o D.l2z D.l2i1 D.l2i2 e,
        .inr ⟨T, true, oT, a1, hk _ _ r1 r2 r3 hT, r1, r2, r3, r4⟩⟩ a5 a6 fun c o c1 _ c3 c4 e => hk c o c1 c3 c4 e
theorem zipS_done {i : Nat} {Q : Option Value → Shared → Prop} (hh : A.handled = none) (D : ZipApart z TI TO i1 i2 l1 l2) (st : ZipS s.heap z TI TO i1 i2 l1 l2 xs ys S i) (hend : xs[i]? = none ∨ ys[i]? = none)
    (hQ : ∀ h', (∀ c o, c ≠ z → c ≠ TO → c ≠ i1 → c ≠ i2 → s.heap.get? c = some o → h'.get? c = some o) → Q none { s with heap := h' }) : wpAny (model prog w) A (pyNext (.ref z)) Q E s := by
  obtain ⟨hTI, h1, h2, hl1, hl2, hz⟩ := st
  rcases hz with ⟨hz, a, b, hTO⟩ | ⟨T, f, oT, hz, hT, r1, r2, r3, r4⟩
  · exact wpAny_pyNext_zip_end hh D hz hTI hTO h1 h2 hl1 hl2 hend hQ
  · exact wpAny_pyNext_zip_end_held hh D hz hT hTI h1 h2 hl1 hl2 hend fun h' hk => hQ h' fun c o c1 _ c3 c4 e => hk c o c1 c3 c4 e
end
structure ZipG (xs ys : Array Value) (lo : Addr) (h : Heap) (as : List Addr) : Prop where
  rise : as.Pairwise (· < ·)
  above : ∀ a ∈ as, lo < a
  pairs : ∀ (j : Nat) (a : Addr), as[j]? = some a → ∃ x y, xs[j]? = some x ∧ ys[j]? = some y ∧ IsPair h a x y
theorem ZipG.there {xs ys : Array Value} {lo : Addr} {h : Heap} {as : List Addr} (g : ZipG xs ys lo h as) {a : Addr} (ha : a ∈ as) : a < h.objs.size := by
  obtain ⟨j, hj⟩ := List.mem_iff_getElem?.mp ha
  obtain ⟨_, _, _, _, e⟩ := g.pairs j a hj
  exact Heap.lt_size e
section
variable {prog : Program} {w : World} {A : Around} {s : Shared} {R : Result → Shared → Prop} {z TI TO i1 i2 l1 l2 S : Addr} {xs ys : Array Value}
theorem zip_loop (hh : A.handled = none) (D : ZipApart z TI TO i1 i2 l1 l2) (low : z < S ∧ TI < S ∧ TO < S ∧ i1 < S ∧ i2 < S ∧ l1 < S ∧ l2 < S) (hl : xs.size = ys.size) (hn : xs.size ≤ sizeLine) (res : Value) {h₁ : Heap}
    (hR : ∀ h' tk acc c as, (∀ b o, b ≠ S → b ≠ z → b ≠ TO → b ≠ i1 → b ≠ i2 → h₁.get? b = some o → h'.get? b = some o) → h'.get? S = some { cls := .type "list", dict := none, data := .seq acc c, slots := #[] } → as.length = xs.size → ZipG xs ys S h' as →
      acc.toList = as.map Value.ref → R (.ok (.ret res)) { s with heap := h', toks := tk }) :
    ∀ (k i : Nat) (h : Heap) (tk c : Nat) (acc : Array Value) (as : List Addr), xs.size - i = k → i ≤ xs.size → ZipS h z TI TO i1 i2 l1 l2 xs ys S i → (∀ b o, b ≠ S → b ≠ z → b ≠ TO → b ≠ i1 → b ≠ i2 → h₁.get? b = some o → h.get? b = some o) →
      h.get? S = some { cls := .type "list", dict := none, data := .seq acc c, slots := #[] } → acc.toList = as.map Value.ref → as.length = i → ZipG xs ys S h as →
      codeAny (model prog w) A (.builtin "list.extend.loop" ⟨[.ref S, .ref z, res], []⟩) R { s with heap := h, toks := tk } := by
  have nS : z ≠ S ∧ TI ≠ S ∧ TO ≠ S ∧ i1 ≠ S ∧ i2 ≠ S ∧ l1 ≠ S ∧ l2 ≠ S := ⟨Nat.ne_of_lt low.1, Nat.ne_of_lt low.2.1, Nat.ne_of_lt low.2.2.1, Nat.ne_of_lt low.2.2.2.1, Nat.ne_of_lt low.2.2.2.2.1, Nat.ne_of_lt low.2.2.2.2.2.1, Nat.ne_of_lt low.2.2.2.2.2.2⟩
  have off : ∀ a, S < a → a ≠ z ∧ a ≠ TO ∧ a ≠ i1 ∧ a ≠ i2 := fun a ha => ⟨Nat.ne_of_gt (Nat.lt_trans low.1 ha), Nat.ne_of_gt (Nat.lt_trans low.2.2.1 ha), Nat.ne_of_gt (Nat.lt_trans low.2.2.2.1 ha), Nat.ne_of_gt (Nat.lt_trans low.2.2.2.2.1 ha)⟩
  intro k
  induction k with
  | zero =>
    intro i h tk c acc as hk hi hst hkeep hS hacc hal hG
    refine codeAny_builtin PySem.F.entry_extend_loop ?_
    rw [Around.under_plainId PySem.F.plain_extend_loop _]
    show wpAny _ A.in1 (pyNext (.ref z) >>= _) _ _ _
    refine wpAny_bind (zipS_done (s := { s with heap := h, toks := tk }) (A := A.in1) hh D hst (.inl (Array.getElem?_eq_none (by omega))) fun h' he => ?_)
    refine wpAny_pure (hR h' tk acc c as (fun b o h1 h2 h3 h4 h5 e => he b o h2 h3 h4 h5 (hkeep b o h1 h2 h3 h4 h5 e)) (he S _ nS.1.symm nS.2.2.1.symm nS.2.2.2.1.symm nS.2.2.2.2.1.symm hS) (by omega) ⟨hG.rise, hG.above, fun j a hj => ?_⟩ hacc)
    obtain ⟨x, y, e1, e2, e3⟩ := hG.pairs j a hj
    obtain ⟨o1, o2, o3, o4⟩ := off a (hG.above a (List.mem_of_getElem? hj))
    exact ⟨x, y, e1, e2, he a _ o1 o2 o3 o4 e3⟩
  | succ k ih =>
    intro i h tk c acc as hk hi hst hkeep hS hacc hal hG
    have hlt : i < xs.size := by omega
    have hx := Array.getElem?_eq_getElem hlt
    have hlt2 : i < ys.size := by omega
    have hy := Array.getElem?_eq_getElem hlt2
    have hsz : acc.size = i := by rw [← Array.length_toList, hacc, List.length_map, hal]
    have hSl : S < h.objs.size := Heap.lt_size hS
    refine codeAny_builtin PySem.F.entry_extend_loop ?_
    rw [Around.under_plainId PySem.F.plain_extend_loop _]
    show wpAny _ A.in1 (pyNext (.ref z) >>= _) _ _ _
    refine wpAny_bind (zipS_item (s := { s with heap := h, toks := tk }) (S := S) D hst hSl hx hy fun h' hst' ht hz hkp => ?_)
    dsimp only at ht hz hkp ⊢
    have hS' := hkp S _ nS.1.symm nS.2.2.1.symm nS.2.2.2.1.symm nS.2.2.2.2.1.symm hS
    have up : ∀ b o, b ≠ S → h'.get? b = some o → (h'.update S (Obj.mapSeq (·.push (Value.ref h.objs.size)))).get? b = some o := fun b o hb e => (Heap.get?_update_other _ _ (Ne.symm hb)).trans e
    show wpAny _ A.in1 (updateSeq S (·.push (Value.ref h.objs.size)) >>= _) _ _ _
    refine wpAny_bind ?_
    refine wpAny_updateSeq hS' rfl (wpAny_pure ⟨plainId_quiet PySem.F.plain_extend_loop _, ih (i + 1) _ tk _ (acc.push (Value.ref h.objs.size)) (as ++ [h.objs.size]) (by omega) hlt (hst'.keep up nS)
      (fun b o h1 h2 h3 h4 h5 e => up b o h1 (hkp b o h2 h3 h4 h5 (hkeep b o h1 h2 h3 h4 h5 e))) (Heap.get?_update_self _ hS' rfl) (by rw [Array.toList_push, hacc, List.map_append]; rfl) (by rw [List.length_append, hal]; rfl) ⟨?_, ?_, ?_⟩⟩) (by rw [hsz]; omega) (by show (acc.push (Value.ref h.objs.size)).size ≤ sizeLine + 1; rw [Array.size_push, hsz]; omega)
    · refine List.pairwise_append.mpr ⟨hG.rise, List.pairwise_singleton _ _, fun a ha b hb => ?_⟩
      rw [List.mem_singleton.mp hb]
      exact hG.there ha
    · intro a ha
      rcases List.mem_append.mp ha with ha | ha
      · exact hG.above a ha
      · rw [List.mem_singleton.mp ha]; exact hSl
    · intro j b hj
      rcases Nat.lt_trichotomy j as.length with h1 | h1 | h1
      · rw [List.getElem?_append_left h1] at hj
        obtain ⟨x', y', e1, e2, e3⟩ := hG.pairs j b hj
        have hb := hG.above b (List.mem_of_getElem? hj)
        obtain ⟨o1, o2, o3, o4⟩ := off b hb
        exact ⟨x', y', e1, e2, up b _ (Nat.ne_of_gt hb) (hkp b _ o1 o2 o3 o4 e3)⟩
      · subst h1
        have hb : h.objs.size = b := by simpa using hj
        subst hb
        exact ⟨_, _, by rw [hal]; exact hx, by rw [hal]; exact hy, up _ _ (Nat.ne_of_gt hSl) ht⟩
      · have hnone : (as ++ [h.objs.size])[j]? = none := List.getElem?_eq_none (by rw [List.length_append, List.length_singleton]; omega)
        rw [hnone] at hj; cases hj
end
theorem nolen_zip : typeLookup (.type "zip") "__len__" = pure none := by rw [typeLookup_type, builtinLookup_eq_fast]; kernel_rfl
theorem nohint_zip : typeLookup (.type "zip") "__length_hint__" = pure none := by rw [typeLookup_type, builtinLookup_eq_fast]; kernel_rfl
theorem ZipS.typeIs {s : Shared} {z TI TO i1 i2 l1 l2 S : Addr} {xs ys : Array Value} {i : Nat} (st : ZipS s.heap z TI TO i1 i2 l1 l2 xs ys S i) : s.TypeIs (.ref z) "zip" := by
  obtain ⟨_, _, _, _, _, hz⟩ := st
  rcases hz with ⟨hz, _⟩ | ⟨T, f, oT, hz, _⟩
  · exact ⟨_, hz, rfl⟩
  · exact ⟨_, hz, rfl⟩
section
variable {prog : Program} {w : World} {A : Around} {E : Value → Shared → Prop} {s : Shared} {z TI TO i1 i2 l1 l2 : Addr} {xs ys : Array Value}
theorem zip_extend {R : Result → Shared → Prop} (hh : A.handled = none) (D : ZipApart z TI TO i1 i2 l1 l2) (S : Addr) (low : z < S ∧ TI < S ∧ TO < S ∧ i1 < S ∧ i2 < S ∧ l1 < S ∧ l2 < S) (hl : xs.size = ys.size) (hn : xs.size ≤ sizeLine) (res : Value) (c₀ : Nat)
    (hz : IsZip s.heap z TI TO .none) (st : ZipS s.heap z TI TO i1 i2 l1 l2 xs ys S 0) (hS : s.heap.get? S = some { cls := .type "list", data := .seq #[] c₀ })
    (hR : ∀ h' tk acc c as, (∀ b o, b ≠ S → b ≠ z → b ≠ TO → b ≠ i1 → b ≠ i2 → s.heap.get? b = some o → h'.get? b = some o) → h'.get? S = some { cls := .type "list", dict := none, data := .seq acc c, slots := #[] } → as.length = xs.size → ZipG xs ys S h' as →
      acc.toList = as.map Value.ref → R (.ok (.ret res)) { s with heap := h', toks := tk }) :
    wpAny (model prog w) A.in1 (Builtin.List.listExtendWith (.ref S) (.ref z) res)
      (fun fin s' => match fin with | .done f => R (.ok f) s' | .again c' => c'.quiet = true ∧ codeAny (model prog w) A c' R s') (fun e s' => R (.error e) s') s := by
  have nS : z ≠ S ∧ TI ≠ S ∧ TO ≠ S ∧ i1 ≠ S ∧ i2 ≠ S ∧ l1 ≠ S ∧ l2 ≠ S := ⟨Nat.ne_of_lt low.1, Nat.ne_of_lt low.2.1, Nat.ne_of_lt low.2.2.1, Nat.ne_of_lt low.2.2.2.1, Nat.ne_of_lt low.2.2.2.2.1, Nat.ne_of_lt low.2.2.2.2.2.1, Nat.ne_of_lt low.2.2.2.2.2.2⟩
  unfold Builtin.List.listExtendWith
  refine wpAny_bind (wpAny_typeOf (T := "zip") st.typeIs ?_)
  have h1 : Builtin.List.listSameRef (.ref S) (.ref z) = false := by simp [Builtin.List.listSameRef, nS.1.symm]
  have h2 : (Value.type "zip" == Value.type "list") = false := by decide
  have h3 : (Value.type "zip" == Value.type "tuple") = false := by decide
  simp only [h1, h2, h3, Bool.or_false, Bool.false_eq_true, if_false]
  refine wpAny_bind (wpAny_pyIter_zip hz ?_)
  refine wpAny_bind (wpAny_holding ?_)
  unfold Builtin.List.listLengthHint
  refine wpAny_bind (wpAny_specialOf st.typeIs nolen_zip ?_)
  show wpAny _ A.in1 (specialOf (Value.ref z) (Str.ofString "__length_hint__") >>= _) _ _ _
  refine wpAny_bind (wpAny_specialOf st.typeIs nohint_zip ?_)
  refine wpAny_pure ?_
  show wpAny _ A.in1 (rule "list.extend.makes-room" >>= fun _ => Builtin.List.listTouch (.ref S) >>= fun _ =>
    again (.builtin "list.extend.loop" ⟨[.ref S, .ref z, res], []⟩)) _ _ _
  refine wpAny_bind (wpAny_rule ?_)
  refine wpAny_bind ?_
  show wpAny _ A.in1 (updateSeq S (·.push .none) >>= fun _ => updateSeq S (·.pop)) _ _ _
  refine wpAny_bind (wpAny_updateSeq hS rfl ?_)
  have hS₂ := Heap.get?_update_self (Obj.mapSeq (·.push Value.none)) hS rfl
  refine wpAny_updateSeq (hz := by seq_fits) hS₂ rfl ?_
  have hS₃ := Heap.get?_update_self (Obj.mapSeq (·.pop)) hS₂ rfl
  have oth : ∀ b o, b ≠ S → s.heap.get? b = some o → ((s.heap.update S (Obj.mapSeq (·.push Value.none))).update S (Obj.mapSeq (·.pop))).get? b = some o :=
    fun b o hb e => (Heap.get?_update_other _ _ (Ne.symm hb)).trans ((Heap.get?_update_other _ _ (Ne.symm hb)).trans e)
  exact wpAny_pure ⟨plainId_quiet PySem.F.plain_extend_loop _, zip_loop (s := s) (h₁ := s.heap) hh D low hl hn res hR xs.size 0 _ _ _ #[] [] (Nat.sub_zero _) (Nat.zero_le _) (st.keep oth nS) (fun b o hb _ _ _ _ e => oth b o hb e) hS₃ rfl rfl
    ⟨List.Pairwise.nil, (fun _ ha => nomatch ha), (fun j a hj => by simp at hj)⟩⟩
theorem zip_list {Q : Value → Shared → Prop} (hh : A.handled = none) (D : ZipApart z TI TO i1 i2 l1 l2) (hl : xs.size = ys.size) (hn : xs.size ≤ sizeLine)
    (hz : IsZip s.heap z TI TO .none) (hTI : IsPair s.heap TI (.ref i1) (.ref i2)) (hTO : ∃ a b, IsPair s.heap TO a b) (h1 : s.heap.IsListIter i1 l1 0) (h2 : s.heap.IsListIter i2 l2 0) (hl1 : s.heap.IsList l1 xs) (hl2 : s.heap.IsList l2 ys)
    (hQ : ∀ h' tk acc c as, (∀ b o, b ≠ z → b ≠ TO → b ≠ i1 → b ≠ i2 → s.heap.get? b = some o → h'.get? b = some o) → h'.get? s.heap.objs.size = some { cls := .type "list", dict := none, data := .seq acc c, slots := #[] } → as.length = xs.size → ZipG xs ys s.heap.objs.size h' as →
      acc.toList = as.map Value.ref → Q (.ref s.heap.objs.size) { s with heap := h', toks := tk }) :
    wpAny (model prog w) A (call (.type "list") [.ref z]) Q E s := by
  refine callType_codes (Q₁ := fun obj s₁ => obj = .ref s.heap.objs.size ∧ s₁ = { s with heap := s.heap.push { cls := .type "list", data := .seq #[] } }) PySem.F.called_list (PySem.F.typeCall_list_1 _) PySem.F.entry_list_init
    (code_list_new _ ⟨rfl, rfl⟩) fun obj s₁ h₁ => ?_
  obtain ⟨rfl, rfl⟩ := h₁
  have hS : (s.heap.push { cls := .type "list", data := .seq #[] }).get? s.heap.objs.size = some { cls := .type "list", data := .seq #[] } := Heap.get?_push_size _ rfl
  obtain ⟨a0, b0, hTO⟩ := hTO
  have low : z < s.heap.objs.size ∧ TI < s.heap.objs.size ∧ TO < s.heap.objs.size ∧ i1 < s.heap.objs.size ∧ i2 < s.heap.objs.size ∧ l1 < s.heap.objs.size ∧ l2 < s.heap.objs.size :=
    ⟨Heap.lt_size hz, Heap.lt_size hTI, Heap.lt_size hTO, let ⟨_, e, _⟩ := h1; Heap.lt_size e, let ⟨_, e, _⟩ := h2; Heap.lt_size e, let ⟨_, e, _⟩ := hl1; Heap.lt_size e, let ⟨_, e, _⟩ := hl2; Heap.lt_size e⟩
  have nS : z ≠ s.heap.objs.size ∧ TI ≠ s.heap.objs.size ∧ TO ≠ s.heap.objs.size ∧ i1 ≠ s.heap.objs.size ∧ i2 ≠ s.heap.objs.size ∧ l1 ≠ s.heap.objs.size ∧ l2 ≠ s.heap.objs.size := ⟨Nat.ne_of_lt low.1, Nat.ne_of_lt low.2.1, Nat.ne_of_lt low.2.2.1, Nat.ne_of_lt low.2.2.2.1, Nat.ne_of_lt low.2.2.2.2.1, Nat.ne_of_lt low.2.2.2.2.2.1, Nat.ne_of_lt low.2.2.2.2.2.2⟩
  have st : ZipS s.heap z TI TO i1 i2 l1 l2 xs ys s.heap.objs.size 0 := ⟨hTI, h1, h2, hl1, hl2, .inl ⟨hz, a0, b0, hTO⟩⟩
  refine ⟨⟨_, hS, rfl⟩, PySem.F.args_list_init_2 _ _, ?_⟩
  show wpAny _ _ (do let old ← Builtin.List.listItems (.ref s.heap.objs.size); Builtin.List.listUpdate (.ref s.heap.objs.size) (fun _ => #[]); letGo old.toList.reverse; Builtin.List.listExtendWith (.ref s.heap.objs.size) (.ref z) .none) _ _ _
  refine wpAny_bind ?_
  unfold Builtin.List.listItems
  refine wpAny_bind (wpAny_seqItems hS rfl (wpAny_pure ?_))
  show wpAny _ _ (updateSeq s.heap.objs.size (fun _ => #[]) >>= fun _ => letGo (#[] : Array Value).toList.reverse >>= fun _ => Builtin.List.listExtendWith (.ref s.heap.objs.size) (.ref z) .none) _ _ _
  refine wpAny_bind (wpAny_updateSeq hS rfl ?_)
  have hS₂ := Heap.get?_update_self (Obj.mapSeq (fun _ => (#[] : Array Value))) hS rfl
  have oth : ∀ b o, b ≠ s.heap.objs.size → s.heap.get? b = some o → ((s.heap.push { cls := .type "list", data := .seq #[] }).update s.heap.objs.size (Obj.mapSeq (fun _ => (#[] : Array Value)))).get? b = some o :=
    fun b o hb e => (Heap.get?_update_other _ _ (Ne.symm hb)).trans (Heap.get?_push_of_some _ e)
  refine wpAny_bind (wpAny_letGo ?_)
  refine zip_extend (A := A.in1) hh D s.heap.objs.size low hl hn .none _ (oth _ _ nS.1 hz) (st.keep oth nS) hS₂ (fun h' tk acc c as hk hS' hlen hG hacc => ?_)
  exact ⟨rfl, hQ h' tk acc c as (fun b o c1 c2 c3 c4 e => hk b o (Nat.ne_of_lt (Heap.lt_size e)) c1 c2 c3 c4 (oth b o (Nat.ne_of_lt (Heap.lt_size e)) e)) hS' hlen hG hacc⟩
end
/-! ### laid into what is known -/
def putP : Hp → List Addr → List (V × V) → Hp
  | H, a :: as, p :: ps => putP (upd H a (.tup [p.1, p.2])) as ps
  | H, _, _ => H
theorem putP_off {b : Addr} : ∀ (as : List Addr) (ps : List (V × V)) (H : Hp), b ∉ as → putP H as ps b = H b
  | [], _, _, _ => rfl
  | _ :: _, [], _, _ => rfl
  | a :: as, p :: ps, H, h => by
    show putP (upd H a (.tup [p.1, p.2])) as ps b = H b
    rw [putP_off as ps _ (fun z => h (List.mem_cons_of_mem _ z)), upd_ne (fun z => h (by rw [z]; exact List.mem_cons_self))]
theorem putP_at : ∀ (as : List Addr) (ps : List (V × V)) (H : Hp), as.length = ps.length → as.Nodup → Paired (fun (t : Addr) (p : V × V) => putP H as ps t = some (.tup [p.1, p.2])) as ps
  | [], [], _, _, _ => .nil
  | [], _ :: _, _, h, _ => by cases h
  | _ :: _, [], _, h, _ => by cases h
  | a :: as, p :: ps, H, h, hn => by
    have hn' := List.nodup_cons.mp hn
    have ih := putP_at as ps (upd H a (.tup [p.1, p.2])) (Nat.succ.inj h) hn'.2
    refine .cons ?_ ih
    show putP (upd H a (.tup [p.1, p.2])) as ps a = some (.tup [p.1, p.2])
    rw [putP_off as ps _ hn'.1, upd_same]
theorem zip_laid {X : Cx} {pins : List (Addr × Obj)} {σ : L2.St} {H : Hp} {s : Shared} {h' : Heap} {tk : Nat} {vx vy : List V} {ux uy : List Value} {acc : Array Value} {c : Nat} {as : List Addr} {S : Addr} (I : Inv X pins σ H s) (hz : vx.length ≤ sizeLine) (hge : s.heap.objs.size ≤ S)
    (rx : Vals vx ux) (ry : Vals vy uy) (hxy : vx.length = vy.length)
    (hk : ∀ b o, s.heap.get? b = some o → h'.get? b = some o) (hS : h'.get? S = some { cls := .type "list", dict := none, data := .seq acc c, slots := #[] }) (hl : as.length = vx.length) (hG : ZipG ux.toArray uy.toArray S h' as) (hacc : acc.toList = as.map Value.ref) :
    ∃ H' : Hp, (∀ b o, H b = some o → H' b = some o) ∧ H S = none ∧ (∀ t ∈ as, H t = none) ∧ S ∉ as ∧ as.Nodup ∧ H' S = some (.lst (as.map V.ref)) ∧ Paired (fun (t : Addr) (q : V × V) => H' t = some (.tup [q.1, q.2])) as (vx.zip vy) ∧ Inv X pins σ H' { s with heap := h', toks := tk } := by
  have lk : (vx.zip vy).length = vx.length := by rw [List.length_zip]; omega
  have hSn : S ∉ as := fun z => Nat.lt_irrefl _ (hG.above _ z)
  have nd : as.Nodup := List.Pairwise.imp (fun {a b} (h : a < b) => Nat.ne_of_lt h) hG.rise
  have new : ∀ t ∈ as, H t = none := fun t ht => I.hok.fresh (Nat.le_trans hge (Nat.le_of_lt (hG.above t ht)))
  have newS : H S = none := I.hok.fresh hge
  have atP := putP_at as (vx.zip vy) (upd H S (.lst (as.map V.ref))) (by omega) nd
  have off : ∀ b, b ∉ as → b ≠ S → putP (upd H S (.lst (as.map V.ref))) as (vx.zip vy) b = H b := fun b h1 h2 => by rw [putP_off as _ _ h1, upd_ne h2]
  have low : ∀ b o, s.heap.get? b = some o → b ∉ as ∧ b ≠ S := fun b o e => ⟨fun z => absurd (Heap.lt_size e) (Nat.not_lt.mpr (Nat.le_trans hge (Nat.le_of_lt (hG.above b z)))), Nat.ne_of_lt (Nat.lt_of_lt_of_le (Heap.lt_size e) hge)⟩
  have kp : ∀ b u, H b = some u → (putP (upd H S (.lst (as.map V.ref))) as (vx.zip vy)) b = some u := fun b u e => by
    rw [off b (fun z => by rw [new b z] at e; cases e) (fun z => by rw [z, newS] at e; cases e)]
    exact e
  have eS : putP (upd H S (.lst (as.map V.ref))) as (vx.zip vy) S = some (.lst (as.map V.ref)) := by rw [putP_off as _ _ hSn, upd_same]
  refine ⟨putP (upd H S (.lst (as.map V.ref))) as (vx.zip vy), kp, newS, new, hSn, nd, eS, atP, ?_⟩
  refine I.call' (ch := []) rfl ⟨fun b o q _ _ _ => hk b o q, fun b o q _ _ _ => ⟨o.slots, hk b o q⟩, fun b o q n _ => ?_, fun b o q _ => ⟨o, hk b o q⟩, fun b xs q => kp b _ q, fun b o u q => kp b _ q, fun b ps q => ⟨#[], by rw [kp b _ q]; simp⟩⟩ (fun b u q => ?_) I.bare fun b z => by simp at z
  · obtain ⟨z1, z2⟩ := low b o q
    rw [off b z1 z2]
    exact n
  · by_cases hb : b ∈ as
    · obtain ⟨j, pk, e1, e2, e3⟩ := LiI.paired_ix atP hb
      rw [e3] at q
      cases q
      obtain ⟨x, y, f1, f2, f3⟩ := hG.pairs j b e1
      obtain ⟨g1, g2⟩ := List.getElem?_zip_eq_some.mp e2
      obtain ⟨u1, k1, r1⟩ := rx.get g1
      obtain ⟨u2, k2, r2⟩ := ry.get g2
      have m1 : some u1 = some x := by rw [← k1, ← f1]; simp
      have m2 : some u2 = some y := by rw [← k2, ← f2]; simp
      rw [Option.some.inj m1] at r1
      rw [Option.some.inj m2] at r2
      exact ⟨by show 2 ≤ sizeLine; decide, [x, y], .cons r1 (.cons r2 .nil), ⟨_, f3, rfl, _, rfl⟩⟩
    · by_cases hb2 : b = S
      · rw [hb2] at q ⊢
        rw [eS] at q
        cases q
        refine ⟨by rw [List.length_map]; omega, acc.toList, c, by rw [hacc]; exact LiI.vals_refs as, ?_⟩
        rw [Array.toArray_toList]
        exact hS
      · rw [off b hb hb2] at q
        exact (I.hok b u q).stay (fun d v _ y => hk d v y) (fun d y => kp d _ y) fun d xs y => kp d _ y
/-! ### the expression -/
def tListZip (K : PySem.W.Frag) (ta : TA) : TE := fun σ H Q => ta σ H fun vs H1 => ∃ a b xs ys, vs = [.ref a, .ref b] ∧ SqL K H1 a xs ∧ SqL K H1 b ys ∧ xs.length = ys.length ∧ xs.length ≤ sizeLine ∧
  ∀ (H' : Hp) (p : Addr) (ts : List Addr), (∀ b o, H1 b = some o → H' b = some o) → H1 p = none → (∀ t ∈ ts, H1 t = none) → p ∉ ts → ts.Nodup → H' p = some (.lst (ts.map V.ref)) → Paired (fun (t : Addr) (q : V × V) => H' t = some (.tup [q.1, q.2])) ts (xs.zip ys) → Q (.ref p) H'
section
variable {X : Cx} {e e2 : Expr} {ta : TA} {p q pos pos2 : Pos}
theorem pe_listZip (hc : X.calm = true) (hg : Gl X "list") (hm : X.mg "list" = none) (hg2 : Gl X "zip") (hm2 : X.mg "zip" = none) (ha : PA X [e, e2] ta)
    (hs : starEach [e, e2] X.env = (false, eval e X.env) :: starEach [e2] X.env := by rfl) (hpl : (backTo pos2 (starEach [e2] X.env)).any (·.1) = false := by rfl)
    (hs2 : starEach [.Call (.Name "zip" q) [e, e2] [] pos2] X.env = (false, eval (.Call (.Name "zip" q) [e, e2] [] pos2) X.env) :: starEach [] X.env := by rfl) :
    PE X (.Call (.Name "list" p) [.Call (.Name "zip" q) [e, e2] [] pos2] [] pos) (tListZip X.K ta) := by
  refine ⟨fun pins s σ H Q I hq => ?_⟩
  refine wpAny_Call_Name_kw (ld_blt I hg hm (by decide +kernel : bootBuiltins "list" = some (.type "list")) ?_)
  refine PyProof.Rows.callWith_type1 ?_ hs2 rfl
  rw [hs2]
  show wpAny _ _ (spliced ((false, eval (.Call (.Name "zip" q) [e, e2] [] pos2) X.env) :: backTo pos (starEach [] X.env))) _ _ s
  refine Calls.spliced_cons ?_
  refine Call_ (ld_blt I hg2 hm2 PyProof.Rows.boot_zip (PyProof.Rows.callWith_type1 (thn (ha.run pos2 pins s σ H _ I hq) fun us s1 ⟨vs, H1, I1, r1, q1⟩ => ?_) hs hpl))
  obtain ⟨a, b, xs, ys, ex, hqx, hqy, hxy, hsz, q1⟩ := q1
  subst ex
  cases r1 with
  | cons r rr =>
    cases rr with
    | cons r' rr =>
      cases rr
      cases r
      cases r'
      obtain ⟨its, rv, p1, _⟩ := I1.list hqx
      obtain ⟨its2, rv2, p2, _⟩ := I1.list hqy
      have l1 := rv.length
      have l2 := rv2.length
      refine call_zip_2 p1.isList p2.isList fun h' hz hTI hTO h1 h2 hsz' hk => ?_
      refine Calls.spliced_nil ?_
      have D := PySem.W.ktu_apart s1.heap.objs.size a b p1.lt p2.lt
      have e5 : h'.objs.size = s1.heap.objs.size + 5 := hsz'
      refine zip_list (s := { s1 with heap := h' }) (I1.ok.hd hc) D (by simp; omega) (by simp; omega) hz hTI ⟨_, _, hTO⟩ h1 h2 (p1.isList.at fun o e => hk _ o e) (p2.isList.at fun o e => hk _ o e) fun h'' tk acc c as hk2 hS hl hG hacc => ?_
      have keep : ∀ b o, s1.heap.get? b = some o → h''.get? b = some o := fun b o e => by
        have hb := Heap.lt_size e
        have up : ∀ j : Nat, b ≠ s1.heap.objs.size + j := fun j => Nat.ne_of_lt (Nat.lt_of_lt_of_le hb (Nat.le_add_right _ _))
        exact hk2 b o (up 4) (up 3) (up 0) (up 1) (hk b o e)
      obtain ⟨H', k1, k2, k3, k4, k5, k6, k7, J⟩ := zip_laid (tk := tk) I1 hsz (by show s1.heap.objs.size ≤ h'.objs.size; omega) rv rv2 hxy keep hS (by simpa using hl.trans (by simp; omega)) hG hacc
      exact ⟨.ref _, H', J, rfl, q1 H' _ as k1 k2 k3 k4 k5 k6 k7⟩
end
end Z

/-! ## ZO -/
set_option Elab.async false
set_option linter.all false
set_option maxRecDepth 100000
set_option maxHeartbeats 2000000
namespace Z
open PySem PySem.Spec PyProof.Rows L2
theorem fresh_listB {K : PySem.W.Frag} {H0 G H : Hp} {vs : List V} {ds : List PD} {p : Addr} (h : RpA K G vs ds) (hp : H0 p = none) (hG : G p = none) (hH : H p = some (.lst vs)) : ROk K H0 G H (.fr 0 ds) (.ref p) := by
  have hl := h.length
  refine ⟨((p, vs.zip ds) : Addr × List (V × PD)), ?_, rfl, ⟨?_, ?_⟩, ?_, ?_⟩
  · show (vs.zip ds).map (fun x => x.2) = ds
    rw [List.map_snd_zip (by omega)]
  · show H p = some (.lst ((vs.zip ds).map (fun x => x.1)))
    rw [hH, List.map_fst_zip (by omega)]
  · have key : ∀ y ∈ (vs.zip ds : List (V × PD)), Rp K G y.1 y.2 := by
      intro y hy
      obtain ⟨i, hi⟩ := List.mem_iff_getElem?.mp hy
      rw [List.getElem?_zip_eq_some] at hi
      obtain ⟨d, e1, e2⟩ := h.get hi.1
      rw [hi.2] at e1
      cases e1
      exact e2
    exact key
  · have key : ∀ l : List (V × PD), l.Pairwise fun y z => ∀ a ∈ ATy.adr 0 y, a ∉ ATy.adr 0 z := fun l => List.pairwise_of_forall (fun _ _ a ha => nomatch ha)
    exact ⟨fun y _ => ⟨trivial, fun h => nomatch h⟩, key _⟩
  · intro a ha
    have e : a = p := by
      have : a ∈ (p :: (vs.zip ds).flatMap (fun _ => ([] : List Addr))) := ha
      simpa using this
    subst e
    exact ⟨hp, hG⟩
def zipL (ds es : List PD) : List PD := (ds.zip es).map fun p => .tuple [p.1, p.2]
theorem zip_rp {K : PySem.W.Frag} {G : Hp} : ∀ (ts : List Addr) (xs ys : List V) (ds es : List PD), Paired (fun (t : Addr) (q : V × V) => G t = some (.tup [q.1, q.2])) ts (xs.zip ys) → RpA K G xs ds → RpA K G ys es → RpA K G (ts.map V.ref) (zipL ds es)
  | [], [], _, _, _, _, h1, h2 => by cases h1; exact .nil
  | [], _ :: _, [], _, _, _, h1, h2 => by
    cases h2
    cases h1
    exact .nil
  | [], _ :: _, _ :: _, _, _, h, _, _ => by cases h
  | _ :: _, [], _, _, _, h, _, _ => by cases h
  | _ :: _, _ :: _, [], _, _, h, _, _ => by cases h
  | t :: ts, x :: xs, y :: ys, _, _, h, h1, h2 => by
    cases h with
    | cons ht hr =>
      cases h1 with
      | cons a1 b1 =>
        cases h2 with
        | cons a2 b2 => exact .cons (.tup ht (.cons a1 (.cons a2 .nil))) (zip_rp ts xs ys _ _ hr b1 b2)
def lzipD (a b : ED) : ED := fun ρ => (a ρ).bind fun r1 => (b ρ).bind fun r2 => match kidsS r1.fz, kidsS r2.fz with
  | some ds, some es => if ds.length = es.length ∧ ds.length ≤ 100000 then .ok (.fr 0 (zipL ds es)) else .st
  | _, _ => .st
section
variable {X : Cx} {E : XK} {C : CM}
theorem se_lzip {e e2 : Expr} {a b : ED} {p q pos pos2 : Pos} (hc : X.calm = true) (hg : Gl X "list") (hm : X.mg "list" = none) (hg2 : Gl X "zip") (hm2 : X.mg "zip" = none) (ha : SE X E C e a) (hb : SE X E C e2 b)
    (hs : starEach [e, e2] X.env = (false, eval e X.env) :: starEach [e2] X.env := by rfl) (hs1 : starEach [e2] X.env = (false, eval e2 X.env) :: starEach [] X.env := by rfl) (hpl : (backTo pos2 (starEach [e2] X.env)).any (·.1) = false := by rfl)
    (hs2 : starEach [.Call (.Name "zip" q) [e, e2] [] pos2] X.env = (false, eval (.Call (.Name "zip" q) [e, e2] [] pos2) X.env) :: starEach [] X.env := by rfl) :
    SE X E C (.Call (.Name "list" p) [.Call (.Name "zip" q) [e, e2] [] pos2] [] pos) (lzipD a b) := by
  obtain ⟨ta, pa, sa⟩ := ha
  obtain ⟨tb, pb, sb⟩ := hb
  refine ⟨_, pe_listZip hc hg hm hg2 hm2 (pa_cons pa (pa_cons pb pa_nil hs1) hs) hs hpl hs2, ?_⟩
  intro G0 H0 G H σ ρ Q I h
  unfold lzipD at h
  refine sa.useF famO I h fun r1 x G1 H1 e1 g1 I1 k1 h1 => ?_
  refine sb.useF famO I1 h1 fun r2 y G2 H2 e2 g2 I2 k2 h2 => ?_
  have k1' := k1.grow g2
  split at h2
  · rename_i ds es q1 q2
    split at h2
    · rename_i c
      obtain ⟨p, vs, rfl, hp, rv⟩ := k1'.kidsS I2.s q1
      obtain ⟨q, us, rfl, hq, ru⟩ := k2.kidsS I2.s q2
      have l1 := rv.length
      have l2 := ru.length
      refine ⟨p, q, vs, us, rfl, hp, hq, by omega, le_line (by omega), fun H' l ts m1 m2 m3 m4 m5 m6 m7 => ?_⟩
      have sG : Same G2 H' := I2.s.trans m1
      have hn : ∀ t ∈ ts, G2 t = none := fun t ht => I2.s.free (m3 t ht)
      have gr : Grow G2 H2 (know G2 H' ts) H' := ⟨know_same sG hn, m1, know_heap sG, fun b o h1 _ h3 => by
        rw [know_out (fun ht => by rw [m3 b ht] at h1; cases h1)]
        exact h3⟩
      refine h2 _ (know G2 H' ts) H' gr (fresh_listB ?_ m2 (by rw [know_out m4]; exact I2.s.free m2) m6)
      have m7' : Paired (fun (t : Addr) (q : V × V) => know G2 H' ts t = some (.tup [q.1, q.2])) ts (vs.zip us) := by
        have key : ∀ (l : List Addr) (ps : List (V × V)), (∀ t ∈ l, t ∈ ts) → Paired (fun (t : Addr) (q : V × V) => H' t = some (.tup [q.1, q.2])) l ps → Paired (fun (t : Addr) (q : V × V) => know G2 H' ts t = some (.tup [q.1, q.2])) l ps := by
          intro l ps hl hp
          induction hp with
          | nil => exact .nil
          | cons a b ih => exact .cons (by rw [know_in (hl _ List.mem_cons_self)]; exact a) (ih fun t ht => hl t (List.mem_cons_of_mem _ ht))
        exact key ts _ (fun _ h => h) m7
      exact zip_rp ts vs us ds es m7' (rv.up gr.g) (ru.up gr.g)
    · exact h2.elim
  · exact h2.elim
end
end Z

/-! ## ZP -/
set_option Elab.async false
set_option linter.all false
set_option maxRecDepth 100000
set_option maxHeartbeats 2000000
namespace Z
open PySem PySem.Spec PyProof.Rows L2
/-! for x in xs: x.append(e): xs an owned list of owned lists, e a constant -/
def stepT (d : PD) (k : Nat) (t : List (List PD)) : List (List PD) := (t.take k).map (fun u => u ++ [d]) ++ t.drop k
theorem stepT_len (d : PD) (k : Nat) (t : List (List PD)) (h : k ≤ t.length) : (stepT d k t).length = t.length := by
  unfold stepT
  rw [List.length_append, List.length_map, List.length_take, List.length_drop]
  omega
theorem stepT_at (d : PD) (k : Nat) (t : List (List PD)) (h : k < t.length) : (stepT d k t)[k]? = some t[k] := by
  unfold stepT
  rw [List.getElem?_append_right (by rw [List.length_map, List.length_take]; omega), List.length_map, List.length_take, Nat.min_eq_left (by omega), Nat.sub_self, List.getElem?_drop, Nat.add_zero, List.getElem?_eq_getElem h]
theorem stepT_set (d : PD) (k : Nat) (t : List (List PD)) (h : k < t.length) : (stepT d k t).set k (t[k] ++ [d]) = stepT d (k + 1) t := by
  unfold stepT
  have e1 : ((t.take k).map (fun u => u ++ [d])).length = k := by rw [List.length_map, List.length_take]; omega
  rw [List.set_append_right _ _ (by omega), e1, Nat.sub_self, List.drop_eq_getElem_cons h, List.set_cons_zero, List.take_add_one, List.getElem?_eq_getElem h, List.map_append, List.append_assoc]
  rfl
theorem stepT_all (d : PD) (t : List (List PD)) : stepT d t.length t = t.map fun u => u ++ [d] := by
  unfold stepT
  rw [List.take_length, List.drop_length, List.append_nil]
theorem stepT_zero (d : PD) (t : List (List PD)) : stepT d 0 t = t := rfl
noncomputable def appAllD (i j : Nat) (d : PD) : SD := fun ρ => match ρ[i]? with
  | some (.ow 1 t) => if (∀ u ∈ (show List (List PD) from t), u.length ≤ 1000) ∧ i ≠ j ∧ j < ρ.length then .nx ((ρ.set j .no).set i (.ow 1 ((show List (List PD) from t).map fun u => u ++ [d]))) else .st
  | _ => .st
theorem EnvOk.blur {K : PySem.W.Frag} {G0 H0 G H : Hp} {σ : L2.St} {ρ : Env} (I : EnvOk K G0 H0 G H σ ρ) (j : Nat) (o : Option V) (h : ρ[j]? = some .no ∨ ρ[j]? = none) : EnvOk K G0 H0 G H (σ.set j o) ρ := by
  obtain ⟨len, b, w, hw⟩ := I
  refine ⟨by rw [List.length_set]; exact len, b, w, fun i e he => ?_⟩
  by_cases c : j = i
  · subst c
    rcases h with h | h
    · rw [h] at he; cases he; trivial
    · rw [h] at he; cases he
  · have := hw i e he
    rw [List.getD_eq_getElem?_getD, List.getElem?_set_ne c, ← List.getD_eq_getElem?_getD]
    exact this
theorem EnvOk.lose {K : PySem.W.Frag} {G0 H0 G H : Hp} {σ : L2.St} {ρ : Env} (I : EnvOk K G0 H0 G H σ ρ) (j : Nat) : EnvOk K G0 H0 G H σ (ρ.set j .no) := by
  obtain ⟨len, b, w, hw⟩ := I
  refine ⟨by rw [List.length_set]; exact len, b, w, fun i e he => ?_⟩
  by_cases c : j = i
  · subst c
    by_cases hl : j < ρ.length
    · rw [List.getElem?_set_self hl] at he; cases he; trivial
    · rw [List.getElem?_eq_none (by simp; omega)] at he; cases he
  · rw [List.getElem?_set_ne c] at he
    exact hw i e he
theorem modP_cons0 (f : LF) (n : Nat) (l : Ty (n + 2)) (j : Nat) (r : List Nat) (u : Ty (n + 1)) (h : (Ty.ks l)[j]? = some u) : modP f (n + 1) l (j :: r) = (modP f n u r).map fun u' => (Ty.ks l).set j u' := by
  show (match (Ty.ks l)[j]? with
    | some u => match modP f n u r with
      | some u' => some ((Ty.ks l).set j u')
      | none => none
    | none => none) = _
  rw [h]
  show (match modP f n u r with
      | some u' => some ((Ty.ks l).set j u')
      | none => none) = _
  cases modP f n u r <;> rfl
/-- the outer list, as it stands -/
theorem EnvOk.outer {K : PySem.W.Frag} {G0 H0 G H : Hp} {σ : L2.St} {ρ : Env} (I : EnvOk K G0 H0 G H σ ρ) {i : Nat} {t : List (List PD)} (hi : ρ[i]? = some (.ow 1 t)) : ∃ A vs, σ.getD i none = some (.ref A) ∧ H A = some (.lst vs) ∧ vs.length = t.length ∧ ∀ (k : Nat), k < t.length → ∃ a us, vs[k]? = some (.ref a) ∧ H a = some (.lst us) := by
  obtain ⟨len, b, w, hw⟩ := I
  obtain ⟨x, x1, x2, x3, x4, x5⟩ := hw i _ hi
  obtain ⟨A, ys⟩ : Addr × List (ATy 1) := x
  have lt : ys.length = t.length := by
    have e : List.map (ATy.era 1) ys = t := x2
    have := congrArg List.length e
    rw [List.length_map] at this
    exact this
  refine ⟨A, ys.map (ATy.val 1), x1, x3.1, by rw [List.length_map]; exact lt, fun k hk => ?_⟩
  have hk' : k < ys.length := by rw [lt]; exact hk
  have m := x3.2 _ (List.getElem_mem hk')
  obtain ⟨a, zs, e⟩ : ∃ (a : Addr) (zs : List (V × PD)), ys[k] = ((a, zs) : Addr × List (V × PD)) := ⟨ys[k].1, ys[k].2, rfl⟩
  rw [e] at m
  refine ⟨a, _, ?_, m.1⟩
  rw [List.getElem?_map, List.getElem?_eq_getElem hk', Option.map_some, e]
  rfl
section
variable {X : Cx} {E : XK} {C : CM}
theorem ss_appAll (i j : Nat) {x y : Str} {e : Expr} {de : ED} {d : PD} {xpos ypos ypos2 apos cpos epos pos : Pos} (hp : PassesOwn (model X.prog X.w) X.A X.env X.xe) (hc : X.calm = true) (hN : X.N.Nodup) (hx : X.N[i]? = some x) (hy : X.N[j]? = some y)
    (hlx : Vis X.env.scope x) (hly : Vis X.env.scope y) (hloc : Loc X.env.scope y) (hf : X.fn y = true ∨ X.env.scope.names.lookup y = some .local) (hdx : (x == ("__debug__" : Str)) = false) (hdy : (y == ("__debug__" : Str)) = false) (hcx : (x == ("__classdict__" : Str)) = false) (hcy : (y == ("__classdict__" : Str)) = false)
    (he : SE X E C e de) (hd : ∀ ρ, de ρ = .ok (.im d)) (hij : i ≠ j)
    (hst : starEach [e] X.env = (false, eval e X.env) :: starEach [] X.env := by rfl)
    (hpp : ∀ to t, PE X (.Name y ypos2) to → PA X [e] t → PE X (.Call (.Attribute (.Name y ypos2) "append" apos) [e] [] cpos) (tBM X.K "list" rAppend to t))
    (hs : swapsWith (.Call (.Attribute (.Name y ypos2) "append" apos) [e] [] cpos) none epos.line X.env = pure false := by rfl)
    (hfs : ∀ z, foldedSetIterable (.Name x xpos) X.env z = pure z := by intro _; rfl) :
    SS X E C (.For (.Name y ypos) (.Name x xpos) [.Expr (.Call (.Attribute (.Name y ypos2) "append" apos) [e] [] cpos) epos] [] pos) (appAllD i j d) := by
  obtain ⟨te, pe, se⟩ := he
  have pv := pe_var (X := X) (pos := xpos) hx hlx hdx hcx
  have pw := pe_var (X := X) (pos := ypos2) hy hly hdy hcy
  refine ⟨_, ps_for hp hc (pi_list pv) (pg_name hN hy hloc hf) (pss_one (ps_expr (hpp _ _ pw (pa_cons pe pa_nil hst)) hs)) hfs, fun G0 H0 G H σ ρ D I h => ?_⟩
  unfold appAllD at h
  split at h
  · rename_i t hi
    split at h
    · rename_i c
      have I0 := I.lose j
      have hi0 : (ρ.set j .no)[i]? = some (.ow 1 t) := by rw [List.getElem?_set_ne (Ne.symm hij)]; exact hi
      obtain ⟨A, vs0, q1, q2, q3, _⟩ := I0.outer hi0
      obtain ⟨T, eT⟩ : ∃ T : List (List PD), T = t := ⟨t, rfl⟩
      have cT : ∀ u ∈ T, u.length ≤ 1000 := by rw [eT]; exact c.1
      have il : i < ρ.length := (List.getElem?_eq_some_iff.mp hi).1
      have rset : ∀ T' : List (List PD), ((ρ.set j .no).set i (.ow 1 T'))[i]? = some (.ow 1 T') := fun T' => List.getElem?_set_self (by rw [List.length_set]; exact il)
      have rno : ∀ T' : List (List PD), ((ρ.set j .no).set i (.ow 1 T'))[j]? = some .no ∨ ((ρ.set j .no).set i (.ow 1 T'))[j]? = none := fun T' => by
        rw [List.getElem?_set_ne hij]
        by_cases hl : j < ρ.length
        · exact .inl (List.getElem?_set_self hl)
        · exact .inr (List.getElem?_eq_none (by rw [List.length_set]; omega))
      have e0 : (ρ.set j .no).set i (.ow 1 (stepT d 0 T)) = ρ.set j .no := by
        rw [stepT_zero, eT]
        apply List.ext_getElem?
        intro k
        by_cases ck : i = k
        · subst ck
          rw [List.getElem?_set_self (by rw [List.length_set]; exact il)]
          exact hi0.symm
        · rw [List.getElem?_set_ne ck]
      refine ⟨(.ref A), getD_some q1, A, rfl, ⟨vs0, SqL.of q2⟩, ?_⟩
      refine ⟨fun k m σ' H' => ∃ G', EnvOk X.K G0 H0 G' H' σ' ((ρ.set j .no).set i (.ow 1 (stepT d k T))) ∧ Same G G' ∧ σ'.getD i none = some (.ref A) ∧ m = T.length - k ∧ k ≤ T.length, ⟨T.length, G, by rw [e0]; exact I0, Same.refl _, q1, rfl, Nat.zero_le _⟩, ?_⟩
      rintro k m σ' H' ⟨G', I', s', qA, rfl, hk⟩
      obtain ⟨A', vs, w1, w2, w3, w4⟩ := I'.outer (rset _)
      have eA : A' = A := by
        rw [qA] at w1
        cases w1
        rfl
      subst eA
      rw [stepT_len d k T hk] at w3 w4
      by_cases hlt : k < T.length
      · obtain ⟨a, us, a1, a2⟩ := w4 k hlt
        refine .inr ⟨⟨vs, .ref a, SqL.of w2, a1⟩, fun σ2 H2 => ∃ G', EnvOk X.K G0 H0 G' H2 σ2 ((ρ.set j .no).set i (.ow 1 (stepT d (k + 1) T))) ∧ Same G G' ∧ σ2.getD i none = some (.ref A'), fun σ2 H2 ⟨G2, b1, b2, b3⟩ => ⟨T.length - (k + 1), by omega, G2, b1, b2, b3, rfl, hlt⟩, ?_⟩
        rintro v H2 ⟨rfl, hy2⟩
        have ev := hy2 vs (SqL.of w2)
        rw [a1] at ev
        cases ev
        have I2 := I'.blur j (some (.ref a)) (rno _)
        have jl : j < σ'.length := by
          rw [I'.len, List.length_set, List.length_set]
          exact c.2.2
        have qi : (σ'.set j (some (.ref a))).getD i none = some (.ref A') := by
          rw [List.getD_eq_getElem?_getD, List.getElem?_set_ne (Ne.symm hij), ← List.getD_eq_getElem?_getD]
          exact qA
        show tDrop _ _ (σ'.set j (some (.ref a))) H2
        refine ⟨(.ref a), List.getElem?_set_self jl, .inl ⟨rfl, us, SqL.of a2⟩, ?_⟩
        refine se G0 H0 G' H2 _ _ _ I2 ?_
        rw [hd]
        intro z G3 H3 g3 r3
        have I3 := I2.grow g3
        have em : modP (apF d) 1 (stepT d k T) [k] = some (stepT d (k + 1) T) := by
          have m0 : modP (apF d) 0 T[k] [] = some (T[k] ++ [d]) := if_pos (Nat.le_trans (cT _ (List.getElem_mem hlt)) (by decide))
          have m1 := modP_cons0 (apF d) 0 (stepT d k T) k [] T[k] (stepT_at d k T hlt)
          rw [m0] at m1
          refine m1.trans ?_
          show some ((stepT d k T).set k (T[k] ++ [d])) = _
          rw [stepT_set d k T hlt]
        obtain ⟨a', xs, ea, ha, hl, I4⟩ := app_step (r := .im d) (f := apF d) (p := [k]) (v := .ref a) I3.r (rset _) r3 (F := []) (fun m u e => by cases e) rfl em (fun v0 e0 => by
          rw [qi] at e0
          cases e0
          show (match H3 A' with
            | some (.lst vs) => match vs[k]? with
              | some u => pathV H3 u []
              | none => none
            | _ => none) = some (.ref a)
          rw [g3.h _ _ w2]
          simp only [a1]
          rfl)
        cases ea
        refine ⟨a, xs, z, rfl, rfl, ha, hl, ?_⟩
        refine ⟨G3, ?_, s'.trans g3.g, qi⟩
        have : ((ρ.set j .no).set i (.ow 1 (stepT d k T))).set i (.ow 1 (stepT d (k + 1) T)) = (ρ.set j .no).set i (.ow 1 (stepT d (k + 1) T)) := List.set_set _
        rw [← this]
        exact I4
      · have ek : k = T.length := by omega
        subst ek
        refine .inl ⟨⟨vs, SqL.of w2, by omega⟩, ?_⟩
        rw [stepT_all, eT] at I'
        exact h σ' G' H' s' I'
    · exact h.elim
  · exact h.elim
end
end Z

/-! ## ZQ -/
set_option Elab.async false
set_option linter.all false
set_option maxRecDepth 100000
set_option maxHeartbeats 2000000
namespace Z
open PySem PySem.Spec PyProof.Rows L2
/-! [x.pop(e) for j in ..]: x an owned list of known things -/
def popL (i j : Nat) (e : ED) : List PD → Env → Option (List PD × List PD)
  | [], ρ => match ρ[i]? with
    | some (.ow 0 t) => some ([], t)
    | _ => none
  | d :: ds, ρ => match e ((ρ.set j .no).set j (.im d)) with
    | .ok r => match popAt ρ i r with
      | some (_, dd, t') => match popL i j e ds (ρ.set i (.ow 0 t')) with
        | some (ys, l) => some (dd :: ys, l)
        | none => none
      | none => none
    | _ => none
def lcPopX (s : LD) (i j : Nat) (e : ED) : EX := fun ρ => match s ρ with
  | .ok ds => match popL i j e ds ρ with
    | some (ys, l) => if ys.length ≤ 100000 ∧ i ≠ j then .ok (.fr 0 ys) (ρ.set i (.ow 0 l)) else .st
    | none => .st
  | .ex c => .ex c ρ
  | .st => .st
theorem hide_upd_ne {H : Hp} {D a : Addr} {o : HO} (h : a ≠ D) : upd (hide H D) a o = hide (upd H a o) D := by
  funext b
  by_cases hb : b = D
  · subst hb
    rw [hide_same, upd_ne (Ne.symm h), hide_same]
  · rw [hide_ne hb]
    by_cases hc : b = a
    · subst hc
      rw [upd_same, upd_same]
    · rw [upd_ne hc, upd_ne hc, hide_ne hb]
section
variable {X : Cx} {E : XK} {C : CM}
theorem sx_lcPop (i j : Nat) {e tg iter : Expr} {x : Str} {xp : Pos} {apos cpos : Pos} {scope : Scope} {y : Str} {pos : Pos} {s : LD} {d : ED} (hc : X.calm = true) (hN : X.N.Nodup) (hi : SI X E C tg iter s) (ok : BlkOk X.N X.env.scope scope [(y, j)])
    (hg : ∀ b : Bk, SG (b.x X scope) tg (.nm j)) (he : ∀ b : Bk, SE (b.x X scope) E0 C e d)
    (hx : ∀ b : Bk, PE (b.x X scope) (.Name x xp) (tVar i))
    (hst : ∀ b : Bk, starEach [e] (b.x X scope).env = (false, eval e (b.x X scope).env) :: starEach [] (b.x X scope).env)
    (hp : ∀ (b : Bk) to t, PE (b.x X scope) (.Name x xp) to → PA (b.x X scope) [e] t → PE (b.x X scope) (.Call (.Attribute (.Name x xp) "pop" apos) [e] [] cpos) (tBM X.K "list" rPopAt to t))
    (hs : ∀ z, foldedSetIterable iter X.env z = pure z := by intro _; rfl) :
    SX X E C (.ListComp (.Call (.Attribute (.Name x xp) "pop" apos) [e] [] cpos) [⟨tg, iter, [], 0⟩] scope pos) (lcPopX s i j d) := by
  obtain ⟨wi, pw, sw⟩ := hi
  obtain ⟨te, pe, se⟩ := blk_e he
  refine ⟨_, pe_lc hc hN pw ok (fun s H C cl fp => (hg ⟨s, H, C, cl, fp⟩).p) (fun s H C cl fp => pts_nil) (fun s H C cl fp => hp ⟨s, H, C, cl, fp⟩ _ _ (hx ⟨s, H, C, cl, fp⟩) (pa_cons (pe ⟨s, H, C, cl, fp⟩) pa_nil (hst ⟨s, H, C, cl, fp⟩))) hs, ?_⟩
  intro G0 H0 G H σ ρ Q I h
  unfold lcPopX at h
  refine sw G0 H0 G H σ ρ _ I ?_
  cases es : s ρ with
  | st => rw [es] at h; exact h
  | ex c => rw [es] at h; exact fun G' H' g => h G' H' g.g (I.grow g)
  | ok ds =>
    rw [es] at h
    intro J G1 H1 g1 wk D hD
    have I1 := I.grow g1
    cases ep : popL i j d ds ρ with
    | none => simp only [ep] at h; exact h.elim
    | some w =>
      obtain ⟨ys, l⟩ := w
      simp only [ep] at h
      split at h
      · rename_i c
        obtain ⟨cl, hij⟩ := c
        have s1 : Same H1 (hide (upd H1 D (.lst [])) D) := by rw [hide_upd]; exact same_to_hide (Same.refl _) hD
        have gs : Grow G1 H1 G1 (hide (upd H1 D (.lst [])) D) := ⟨Same.refl _, s1, I1.s.trans s1, fun _ _ _ _ h => h⟩
        refine ⟨fun k m H2 => ∃ G2 acc out rest ρ', EnvOk X.K G0 H0 G2 (hide H2 D) σ ρ' ∧ Same G1 G2 ∧ G2 D = none ∧ H2 D = some (.lst acc) ∧ RpA X.K G2 acc out ∧ m = ds.length - k ∧ k ≤ ds.length ∧ popL i j d (ds.drop k) ρ' = some (rest, l) ∧ ys = out ++ rest ∧ ρ'.set i (.ow 0 l) = ρ.set i (.ow 0 l),
          ⟨ds.length, G1, [], [], ys, ρ, I1.grow gs, Same.refl _, I1.s.free hD, upd_same, .nil, rfl, Nat.zero_le _, ep, rfl, rfl⟩, ?_⟩
        rintro k m H2 ⟨G2, acc, out, rest, ρ', Jb, sG, nG, hacc, rv, rfl, hk, hr, hy, hρ⟩
        have gu : Grow G2 (hide H2 D) G2 H2 := Grow.unhide Jb.s
        have I2 := Jb.grow gu
        by_cases hlt : k < ds.length
        · have hd : ds[k]? = some ds[k] := List.getElem?_eq_getElem hlt
          obtain ⟨go, yl⟩ := (wk k H2 (sG.trans I2.s)).2 _ hd
          refine .inr ⟨go, fun H3 => ∃ G3 acc out rest ρ', EnvOk X.K G0 H0 G3 (hide H3 D) σ ρ' ∧ Same G1 G3 ∧ G3 D = none ∧ H3 D = some (.lst acc) ∧ RpA X.K G3 acc out ∧ popL i j d (ds.drop (k + 1)) ρ' = some (rest, l) ∧ ys = out ++ rest ∧ ρ'.set i (.ow 0 l) = ρ.set i (.ow 0 l), fun H3 ⟨G3, acc, out, rest, ρ', a1, a2, a3, a4, a5, a6, a7, a8⟩ => ⟨ds.length - (k + 1), by omega, G3, acc, out, rest, ρ', a1, a2, a3, a4, a5, rfl, hlt, a6, a7, a8⟩, fun v H3 hyl => ?_⟩
          obtain ⟨G3, g3, rd⟩ := yl v H3 hyl G2 sG I2.s
          have I3 := I2.grow g3
          rw [List.drop_eq_getElem_cons hlt] at hr
          unfold popL at hr
          have I4 : EnvOk X.K G0 H0 G3 H3 ((wipe σ [j]).set j (some v)) ((ρ'.set j .no).set j (.im ds[k])) := (I3.wipe [j]).setIm j rd
          have hw0 : wipe ((wipe σ [j]).set j (some v)) [j] = wipe (wipe σ [j]) [j] := wipe_set List.mem_cons_self
          simp only [List.map_cons, List.map_nil, tYes, if_true]
          show wipe ((wipe σ [j]).set j (some v)) [j] = wipe σ [j] ∧ _
          generalize (wipe σ [j]).set j (some v) = σ3 at *
          have hw : ∀ us : List Nat, us = [j] → wipe σ3 us = wipe (wipe σ [j]) us := fun us e => by subst e; exact hw0
          refine ⟨?_, ?_⟩
          · exact hw0.trans (wipe_wipe [j] σ)
          · show tBM _ _ _ _ _ σ3 H3 _
            cases ee : d ((ρ'.set j .no).set j (.im ds[k])) with
            | ex c => rw [ee] at hr; cases hr
            | st => rw [ee] at hr; cases hr
            | ok r =>
              rw [ee] at hr
              cases eq : popAt ρ' i r with
              | none => simp only [eq] at hr; cases hr
              | some w =>
                obtain ⟨jj, dd, t'⟩ := w
                simp only [eq] at hr
                cases er : popL i j d (ds.drop (k + 1)) (ρ'.set i (.ow 0 t')) with
                | none => simp only [er] at hr; cases hr
                | some w2 =>
                  obtain ⟨ys2, l2⟩ := w2
                  simp only [er] at hr
                  have e1 : dd :: ys2 = rest := congrArg Prod.fst (Option.some.inj hr)
                  have e2 : l2 = l := congrArg Prod.snd (Option.some.inj hr)
                  subst e2
                  obtain ⟨kk, t, k1, k2, k3, k4, k5, k6⟩ := popAt_eq eq
                  have k2' : ((ρ'.set j .no).set j (.im ds[k]))[i]? = some (.ow 0 t) := by
                    rw [List.getElem?_set_ne (Ne.symm hij), List.getElem?_set_ne (Ne.symm hij)]
                    exact k2
                  obtain ⟨a0, xs0, y0, b1, b2, _⟩ := pop_step I4 k2' k4
                  refine ⟨_, getD_some b1, .inl ⟨rfl, _, SqL.of b2⟩, ?_⟩
                  refine se G0 H0 G3 H3 σ3 _ _ I4 ?_
                  rw [ee]
                  intro v5 G5 H5 g5 r5
                  have kv := r5.rp g5.s
                  rw [k1] at kv
                  cases kv
                  have g35 := g3.trans g5
                  obtain ⟨gh, nG5⟩ := (Grow.refl Jb.s).rehide g35 hide_same hacc trivial nG
                  have Jb5 := Jb.grow gh
                  obtain ⟨a, xs, w, c1, c2, c3, c4, c5, c6⟩ := pop_step Jb5 k2 k4
                  have ha : a ≠ D := fun e => by subst e; rw [hide_same] at c2; cases c2
                  have c2' : H5 a = some (.lst xs) := by rw [hide_ne ha] at c2; exact c2
                  have eav : a0 = a := by
                    obtain ⟨a', xs', w', p1, p2, _⟩ := pop_step I3 k2 k4
                    have q1 : σ3.getD i none = some (.ref a0) := b1
                    have I3' := I4
                    rw [c1] at p1
                    cases p1
                    have := hw [j] rfl
                    have hne : (wipe σ3 [j]).getD i none = (wipe (wipe σ [j]) [j]).getD i none := by rw [this]
                    rw [wipe_wipe] at hne
                    have u1 : ∀ τ : L2.St, (wipe τ [j]).getD i none = τ.getD i none := fun τ => by
                      show (τ.set j none).getD i none = _
                      rw [List.getD_eq_getElem?_getD, List.getElem?_set_ne (Ne.symm hij), ← List.getD_eq_getElem?_getD]
                    rw [u1, u1, q1, c1] at hne
                    cases hne
                    rfl
                  subst eav
                  obtain ⟨q1, q2, q3, q4⟩ := ixN_seq k3
                  have hD5 : H5 D = some (.lst acc) := g35.h _ _ hacc
                  have hl := rv.length
                  have hl2 : out.length ≤ ys.length := by rw [hy]; simp
                  refine ⟨a0, xs, kk, jj, w, rfl, rfl, c2', by omega, by omega, by rw [c3]; exact q1, c4, ?_⟩
                  refine ⟨acc, by rw [upd_ne (Ne.symm ha)]; exact hD5, lt_line (by omega), G5, acc ++ [w], out ++ [dd], ys2, ρ'.set i (.ow 0 t'), ?_, sG.trans g35.g, nG5, upd_same, (rv.up g35.g).snoc c5, er, by rw [hy, ← e1]; simp, by rw [List.set_set]; exact hρ⟩
                  rw [hide_upd, ← hide_upd_ne ha, k5]
                  exact c6
        · have ek : k = ds.length := by omega
          refine .inl ⟨(wk k H2 (sG.trans I2.s)).1 (by omega), ?_⟩
          rw [ek, List.drop_length] at hr
          unfold popL at hr
          split at hr
          · rename_i t et
            have e1 : rest = [] := (congrArg Prod.fst (Option.some.inj hr)).symm
            have e2 : t = l := congrArg Prod.snd (Option.some.inj hr)
            subst e1
            subst e2
            rw [List.append_nil] at hy
            subst hy
            have eρ : ρ' = ρ.set i (.ow 0 t) := by
              rw [← hρ]
              apply List.ext_getElem?
              intro q
              by_cases cq : i = q
              · subst cq
                rw [List.getElem?_set_self (List.getElem?_eq_some_iff.mp et).1]
                exact et
              · rw [List.getElem?_set_ne cq]
            rw [← eρ] at h
            have fr := Jb.fresh gu (F := [D]) fun a ha => by
              have : a = D := by simpa using ha
              subst this
              exact ⟨hide_same, nG⟩
            refine h (.ref D) G2 H2 [D] (g1.g.trans sG) fr ?_
            have z := fresh_acc (H0 := hide H2 D) rv hacc hide_same nG
            obtain ⟨x, x1, x2, x3, x4, x5⟩ := z
            refine ⟨x, x1, x2, x3, x4, fun a ha => ?_⟩
            have hz := (x5 a ha).1
            by_cases q : a = D
            · subst q; exact List.mem_singleton.mpr rfl
            · exfalso
              have eD : x.1 = D := by
                have : ATy.val 1 x = .ref D := x2
                have h3 : V.ref x.1 = .ref D := this
                cases h3
                rfl
              have ha' : a ∈ x.1 :: (x.2 : List (ATy 0)).flatMap (fun _ => ([] : List Addr)) := ha
              rw [eD] at ha'
              have : a = D := by simpa using ha'
              exact q this
          · cases hr
      · exact h.elim
end
end Z

/-! ## ZR -/
set_option Elab.async false
set_option linter.all false
set_option maxRecDepth 100000
set_option maxHeartbeats 2000000
namespace Z
open PySem PySem.Spec PyProof.Rows L2
/-! ### an own class whose __init__ raises -/
def SpI (K : PySem.W.Frag) (C : CM) (n : Nat) (f : List PD → Out R) : Sp := fun vs H Q E => ∃ (v : V) (us : List V) (G : Hp) (ds : List PD),
  vs = v :: us ∧ Same G H ∧ RpA K G us ds ∧ ds.length = n ∧ ∃ c, f ds = .ex c ∧ ∀ G' H', Grow G H G' H' → E (C c) none H'
def denI (N k : Nat) (d : SD) : List PD → Out R := fun ds => outS (d (.no :: ds.map Ent.im ++ List.replicate (N - (k + 1)) Ent.no))
theorem start_okI {K : PySem.W.Frag} {G H : Hp} {N : List Str} {vs : List V} {ds : List PD} {k : Nat} (v : V) (s : Same G H) (r : RpA K G vs ds) (hn : ds.length = k) (hN : k + 1 ≤ N.length) :
    EnvOk K G H G H (L2.start N (v :: vs)) (.no :: ds.map Ent.im ++ List.replicate (N.length - (k + 1)) Ent.no) := by
  have hl := r.length
  refine ⟨by simp [L2.start]; omega, Grow.refl s, fun a => none, fun i e he => ?_⟩
  cases i with
  | zero =>
    cases he
    trivial
  | succ i =>
    have he : (ds.map Ent.im ++ List.replicate (N.length - (k + 1)) Ent.no)[i]? = some e := by simpa using he
    by_cases h : i < ds.length
    · rw [List.getElem?_append_left (by simpa using h)] at he
      rw [List.getElem?_map] at he
      cases q : ds[i]? with
      | none => rw [q] at he; cases he
      | some d =>
        rw [q] at he
        cases he
        obtain ⟨v, e1, e2⟩ := r.getD q
        refine ⟨v, ?_, e2⟩
        unfold L2.start
        rw [List.getD_eq_getElem?_getD, List.getElem?_append_left (by simp [hl]; omega), List.getElem?_map]
        show ((vs[i]?).map some).getD none = some v
        rw [e1]
        rfl
    · rw [List.getElem?_append_right (by simpa using h)] at he
      have e2 := List.mem_of_getElem? he
      rw [List.mem_replicate] at e2
      rw [e2.2]
      trivial
section
variable {P : Program} {w : World} {K : PySem.W.Frag} {mg : Str → Option Value} {base : Heap} {C : CM}
theorem fnOk_ofI {x qual : Str} {params : Arguments} {body : List Stmt} {scope : Scope} {f : Addr} {fd : FuncData} {N ps : List Str} {k n : Nat} {den : SD} (F : FunD K x qual params body scope [] [] f fd) (S : FnScope N ps scope) (hn : ps.length = n + 1) (hN : n + 1 ≤ N.length)
    (hbody : ∀ (cdv : Value) (A : Around) (outer : List PySem.Env) (s : Shared) (H : Hp) (E : XK), Room k (A.deeper (envOfC qual scope s.heap.objs.size f cdv)) →
      SB (cxOf (L2N.CX P w) P w K mg base N qual scope f cdv A outer s H E) E C body den) :
    FnOk P w K mg base (L2N.CX P w) (k + 1) f fd ps (SpI K C n (denI N.length n den)) := by
  refine F.ok S (fun vs H Q E h => ?_) (fun cdv A outer s H vs Q E hr h => ?_)
  · obtain ⟨v, us, G, ds, rfl, s, r, l, _⟩ := h
    rw [List.length_cons, r.length, l, hn]
  · obtain ⟨v, us, G, ds, rfl, sm, r, l, c, ec, q⟩ := h
    obtain ⟨t, p, sim⟩ := hbody cdv A outer s H E hr
    refine ⟨t, p, sim G H G H _ _ _ (start_okI v sm r l hN) (SOk.out (?_ : OOk K E C G H Q (denI N.length n den ds)))⟩
    rw [ec]
    exact q
/-- a class whose objects others try to make -/
structure CalI (P : Program) (w : World) (K : PySem.W.Frag) (mg : Str → Option Value) (base : Heap) (C : CM) (x : Str) (k n : Nat) (ps : List Str) (fn : List PD → Out R) : Prop where
  p : ∃ (f Cl : Addr) (fd : FuncData), Mk K Cl f ∧ FnOk P w K mg base (L2N.CX P w) k f fd ps (SpI K C n fn) ∧ mg x = some (.ref Cl) ∧ Binds K fd ps []
end
section
variable {X : Cx} {E : XK} {C : CM}
@[simp] def mkID (f : List PD → Out R) (a : AD) : ED := fun ρ => (a ρ).bind fun rs => match f (rs.map R.dat) with
  | .ex c => .ex c
  | _ => .st
theorem se_mkI {k kk n : Nat} {ps : List Str} {fn : List PD → Out R} {x : Str} {e : Expr} {es : List Expr} {a : AD} {p pos : Pos} (G : CalI X.prog X.w X.K X.mg X.base C x k n ps fn) (hr : Room kk X.A) (hk : k + 1 ≤ kk) (hx : Passes (L2N.CX X.prog X.w) X E)
    (hl : ALen a n) (ha : SA X E C (e :: es) a) (hg : Gl X x := by rfl) (hdb : (x == ("__debug__" : Str)) = false := by decide) (he : starEach (e :: es) X.env = (false, eval e X.env) :: starEach es X.env := by rfl) (hpl : (backTo pos (starEach es X.env)).any (·.1) = false := by rfl) :
    SE X E C (.Call (.Name x p) (e :: es) [] pos) (mkID fn a) := by
  obtain ⟨f, Cl, fd, M, F, hm, hb⟩ := G.p
  obtain ⟨ta, pa, sa⟩ := ha
  refine ⟨_, pe_make M F (hr.mono hk) hg hm hb .nil hx pa hdb he hpl, ?_⟩
  intro G0 H0 G H σ ρ Q I h
  unfold mkID at h
  refine sa.use famO I h fun rs vs G1 H1 e1 g1 I1 k1 h1 => ?_
  intro y dx hy hd hne
  rw [List.append_nil]
  have n2 : (upd H1 dx (.own y)) y = none := by rw [upd_ne (Ne.symm hne)]; exact hy
  have g2 : Grow G1 H1 G1 (upd (upd H1 dx (.own y)) y (.ins Cl dx [])) := (Grow.new I1.s hd).trans (Grow.new (I1.s.trans (same_upd hd)) n2)
  have s2 := I1.s.trans g2.h
  refine ⟨_, vs, _, rs.map R.dat, rfl, Same.refl _, (k1.rp I1.s).up g2.h, by rw [List.length_map]; exact hl.l _ _ e1, ?_⟩
  cases ef : fn (rs.map R.dat) with
  | ok r => rw [ef] at h1; exact h1.elim
  | st => rw [ef] at h1; exact h1.elim
  | ex c =>
    rw [ef] at h1
    refine ⟨c, rfl, fun G' H' g => ?_⟩
    have hs : Same H1 H' := g2.h.trans g.h
    exact h1 (tupG G1 H') H' ⟨tupG_same (I1.s.trans hs), hs, tupG_heap (I1.s.trans hs), fun a o h2 h3 h4 => tupG_none (hs _ _ h2) h3 h4⟩
end
end Z
namespace Z
open PySem PySem.Spec PyProof.Rows L2

section
variable {X : Cx} {E : XK} {C : CM}
/-! ### try: f(..), except D as e: suite that returns -/
open Classical in
noncomputable def tryU (f : List PD → Out R) (a : AD) (i : Nat) (su : String → Option (Addr → SD)) : SD := fun ρ => match noX (a ρ) with
  | .ok rs => if rs.all R.isIm then match f (rs.map R.dat) with
    | .ok _ => .nx ρ
    | .ex c => match su c with
      | some s => if (∀ a : Addr, s a (ρ.set i (.vv (.ref a))) = s 0 (ρ.set i (.vv (.ref 0)))) then match s 0 (ρ.set i (.vv (.ref 0))) with
        | .nx ρ' => .nx (ρ'.set i .no)
        | .rt r => .rt r
        | _ => .st
        else .st
      | none => .st
    | .st => .st
    else .st
  | _ => .st
theorem ss_tryU {k kk n i : Nat} {ps : List Str} {fn : List PD → Out R} {x nm cx : Str} {cv : Value} {e : Expr} {es : List Expr} {a : AD} {b₀ : Stmt} {suite : List Stmt} {p cpos epos np pos' pos : Pos} (su : String → Option (Addr → SD)) (G : Cal X.prog X.w X.K X.mg X.base C x k n ps fn) (hr : Room kk X.A) (hk : k ≤ kk)
    (hl : ALen a n) (ha : ∀ pn xe, SA (X.tr pn xe) EF C (e :: es) a) (hs : X.stack = X.env :: X.outer) (hf : X.env.frame = some X.env.locals) (hN : X.N.Nodup) (hi : X.N[i]? = some nm) (hln : X.env.kindOf nm = some .local) (hc : Names X cx cv) (tk : L2N.Takes X (fun cls d _ H => E cls d H))
    (hcat : ∀ c s, su c = some s → PySem.W.exmOne X.K (C c) cv = some true)
    (hsu : ∀ c s, su c = some s → ∀ a oe pn, L2N.Zn (C c) none oe → (∃ vs, oe.data = .fields vs) → SB (X.suite a ((a, oe) :: pn)) EF C (b₀ :: suite) (s a))
    (hg : Gl X x := by rfl) (hdb : (x == ("__debug__" : Str)) = false := by decide) (he : starEach (e :: es) X.env = (false, eval e X.env) :: starEach es X.env := by rfl) (hpl : (backTo cpos (starEach es X.env)).any (·.1) = false := by rfl)
    (hsw : swapsWith (.Call (.Name x p) (e :: es) [] cpos) none epos.line X.env = pure false := by rfl) :
    SS X E C (.Try [.Expr (.Call (.Name x p) (e :: es) [] cpos) epos] [.ExceptHandler (some (.Name cx np)) (some nm) (b₀ :: suite) pos'] [] [] pos) (tryU fn a i su) := by
  obtain ⟨f, fd, F, hm, hkp, hb⟩ := G.p
  let taS : TA := fun σ H Q => ∀ pn xe, Classical.choose (ha pn xe).p σ H Q
  have paS : ∀ pn xe, PA (X.tr pn xe) (e :: es) taS := fun pn xe => ⟨fun pos pins s σ H Q I h => (Classical.choose_spec (ha pn xe).p).1.run pos pins s σ H Q I (h pn xe)⟩
  have saS : SimA X.K EF C taS a := fun G0 H0 G H σ ρ Q I h pn xe => (Classical.choose_spec (ha pn xe).p).2 G0 H0 G H σ ρ Q I h
  let tsS : Addr → Value → Option Addr → TS := fun a cls d D σ H => ∃ c s, ∃ h : su c = some s, ∃ e1 : cls = C c, ∃ e2 : d = none, ∀ oe pn (hz : L2N.Zn (C c) none oe) (hv : ∃ vs, oe.data = .fields vs), Classical.choose (hsu c s h a oe pn hz hv).p D σ H
  have psS : ∀ (a : Addr) (oe : Obj) (cls : Value) (d : Option Addr) (pn : List (Addr × Obj)), L2N.Zn cls d oe → (∃ vs, oe.data = .fields vs) → PSs (X.suite a ((a, oe) :: pn)) (b₀ :: suite) (tsS a cls d) := fun a oe cls d pn hz hv => ⟨fun pins s σ H D I h => by
    obtain ⟨c, s1, h1, rfl, rfl, q⟩ := h
    exact (Classical.choose_spec (hsu c s1 h1 a oe pn hz hv).p).1.run pins s σ H D I (q oe pn hz hv)⟩
  refine ⟨_, L2N.ps_try_as (tb := fun W D σ H => tCallSD (SpF X.K C n fn) [] (fun σ cls d H => W cls d σ H) taS σ H fun _ H1 => D.nx σ H1) (ts := tsS) hs hf hN hi hln hc tk (fun W pn xe tk' _ => ?_) psS, fun G0 H0 G H σ ρ D I h => ?_⟩
  · exact pss_one (ps_expr (pe_callSD (X := X.tr pn xe) (CX := L2N.CX X.prog X.w) F (hr.mono hk) hg hm hkp hb .nil (fun σ pins H s u s' I c => tk' u s' (L2N.XE.of_call I (fun cls d H' h => h) c)) (paS pn xe) hdb he hpl) hsw)
  · show taS σ H fun vs H1 => SpF X.K C n fn (vs ++ []) H1 (fun _ H2 => D.nx σ H2) fun cls d H2 => wAs X.K cv i tsS (fun cls d _ H => E cls d H) D cls d σ H2
    unfold tryU at h
    refine saS G0 H0 G H σ ρ _ I ?_
    cases ea : a ρ with
    | ex c => rw [ea] at h; exact h.elim
    | st => rw [ea] at h; exact h.elim
    | ok rs =>
      rw [ea] at h
      simp only [noX] at h
      intro vs G1 H1 g1 k1
      by_cases c : rs.all R.isIm = true
      · rw [if_pos c] at h
        rw [List.append_nil]
        have I1 := I.grow g1
        refine ⟨G1, rs.map R.dat, I1.s, k1.ims (ims_all c), by rw [List.length_map]; exact hl.l _ _ ea, ?_⟩
        cases ef : fn (rs.map R.dat) with
        | ok r => rw [ef] at h; exact fun v G' H' g hr => h σ G' H' (g1.g.trans g.g) (I1.grow g)
        | st => rw [ef] at h; exact h.elim
        | ex c =>
          rw [ef] at h
          simp only at h
          intro G' H' g
          cases es : su c with
          | none => rw [es] at h; exact h.elim
          | some s =>
            rw [es] at h
            simp only at h
            by_cases hind : ∀ a : Addr, s a (ρ.set i (.vv (.ref a))) = s 0 (ρ.set i (.vv (.ref 0)))
            rotate_left
            · rw [if_neg hind] at h; exact h.elim
            rw [if_pos hind] at h
            refine ⟨true, hcat c s es, fun _ b hb => ⟨c, s, es, rfl, rfl, fun oe pn hz hv => ?_⟩, fun z => nomatch z⟩
            have I2 := I1.grow g
            have I3 : EnvOk X.K G0 H0 G' H' (σ.set i (some (.ref b))) (ρ.set i (.vv (.ref b))) := I2.put fun w hw => ⟨w, rfl, fun j e _ h => hw j e h⟩
            refine (Classical.choose_spec (hsu c s es b oe pn hz hv).p).2 G0 H0 G' H' _ _ _ I3 ?_
            rw [hind b]
            have s2 := g1.g.trans g.g
            cases eo : s 0 (ρ.set i (.vv (.ref 0))) with
            | nx ρ' => rw [eo] at h; exact fun σ4 G4 H4 s4 I4 => h _ G4 H4 (s2.trans s4) (I4.setNo i)
            | rt r => rw [eo] at h; exact fun v G4 H4 g4 hr => h v G4 H4 g4 hr
            | rv r ρ' => rw [eo] at h; exact h.elim
            | ev r ρ' => rw [eo] at h; exact h.elim
            | ex c => rw [eo] at h; exact h.elim
            | bk ρ' => rw [eo] at h; exact h.elim
            | ct ρ' => rw [eo] at h; exact h.elim
            | st => rw [eo] at h; exact h.elim
      · rw [if_neg c] at h; exact h.elim
end
def clsB : Stmt → List Stmt
  | .ClassDef _ _ _ b .. => b
  | _ => []
end Z

/-! ## ZS -/
set_option Elab.async false
set_option linter.all false
set_option maxRecDepth 100000
set_option maxHeartbeats 2000000
namespace Z
open PySem PySem.Spec PyProof.Rows L2 HotX
/-! ### [x for x in xs if x] within an except suite, xs a list of truths -/
/-- the end of a walk over a list while an exception is handled: StopIteration gets that one as its context, and is dropped -/
theorem list_end_hot {prog : Program} {w : World} {A : Around} {E : Value → Shared → Prop} {s : Shared} {it l x1 : Addr} {i : Nat} {items : Array Value} {Q : Option Value → Shared → Prop} (hot : HotAt A x1 s.heap)
    (hit : s.heap.IsListIter it l i) (hl : s.heap.IsList l items) (hx : items[i]? = none) (hne : it ≠ x1)
    (hQ : ∀ h', (∀ b o, b ≠ it → s.heap.get? b = some o → h'.get? b = some o) → Q none { s with heap := h' }) : wpAny (model prog w) A (pyNext (.ref it)) Q E s := by
  obtain ⟨hh, oe, ve, ge, de, ce⟩ := hot
  obtain ⟨io, gi, ci, di⟩ := id hit
  obtain ⟨lo, gl, cl, nl, dl⟩ := hl
  unfold pyNext
  refine wpAny_bind (wpAny_attempt (wpAny_callSpecial?_slot (name := Str.ofString "__next__") hit.typeIs slot_listiter_next (wpAny_call_entry slot_listiter_next hit.typeIs entry_listiter_next ?_ (args_listiter_next _))))
  show wpAny _ _ (field (.ref it) 0 >>= _) _ _ s
  refine wpAny_bind (wpAny_field gi di (x := .ref l) rfl ?_)
  show wpAny _ _ (if (Value.ref l == Value.none) = true then _ else _) _ _ s
  have hb : ¬ ((Value.ref l == Value.none) = true) := Bool.false_ne_true
  rw [if_neg hb]
  show wpAny _ _ (field (.ref it) 1 >>= _) _ _ s
  refine wpAny_bind (wpAny_field gi di (x := .int i 0) rfl ?_)
  show wpAny _ _ (seqItems? (.ref l) >>= _) _ _ s
  refine wpAny_bind (wpAny_seqItems gl dl ?_)
  simp only [Int.toNat_natCast, hx]
  refine wpAny_bind (wpAny_rule (wpAny_bind (wpAny_setField gi di (by simp) ?_)))
  show wpAny _ _ (newExc (.type "StopIteration") [] >>= _) _ _ _
  refine wpAny_bind ?_
  simp only [newExc, newTuple]
  refine wpAny_bind (wpAny_newObj_type ?_ (by size_fits))
  refine wpAny_bind (m := firstArgMember _ _) (wpAny_of_eq (a := Value.none) (by first | rfl | (simp only [firstArgMember]; rfl)) ?_)
  refine wpAny_newObj_type ?_ (by size_fits)
  have g1 := (Heap.get?_update_other s.heap (Obj.mapFields (·.setIfInBounds 0 .none)) hne).trans ge
  refine raiseNew_hot ⟨hh, oe, ve, Heap.get?_push_of_some _ (Heap.get?_push_of_some _ g1), de, ce⟩ (Nat.ne_of_lt (Heap.lt_size (Heap.get?_push_of_some _ g1))) (Heap.get?_push_size _ rfl) rfl (by first | (simp; done) | (simp; omega) | (simp only [Array.size_append]; simp; omega)) ?_
  refine wpAny_bind (wpAny_isInstance (T := "StopIteration") (b := true) ⟨_, Heap.get?_update_self _ (Heap.get?_push_size _ rfl) rfl, rfl⟩ isSubtype_stop ?_)
  refine wpAny_pure (hQ _ fun b o hbi e => ?_)
  have e1 := (Heap.get?_update_other s.heap (Obj.mapFields (·.setIfInBounds 0 .none)) (Ne.symm hbi)).trans e
  rw [Heap.get?_update_other _ _ (Nat.ne_of_gt (Heap.lt_size (Heap.get?_push_of_some _ e1)))]
  exact Heap.get?_push_of_some _ (Heap.get?_push_of_some _ e1)
section
variable {X : Cx} {E : XK} {C : CM}
/-- what the handled exception is, it stays so within a block -/
theorem hot_blk {s0 : Shared} {H0 : Hp} {scope : Scope} {ce : PySem.Env} {fp : List Addr} {pins : List (Addr × Obj)} {σ0 σ : L2.St} {H : Hp} {s : Shared} (hot : L2H.HotC X) (I0 : Inv X pins σ0 H0 s0) (nf : ∀ b ∈ fp, FpOk X pins H0 b) (hs : ∀ x, L2H.Hot1 X.A x → x ∈ X.pn → x.1 ∉ frs X.stack)
    (I : Inv (X.blk s0 H0 scope ce fp) [] σ H s) : ∃ x1, HotAt X.A x1 s.heap ∧ x1 ∉ fp := by
  obtain ⟨p, hp, hm⟩ := hot
  have k := I0.pin p (List.mem_append_left _ hm)
  have nfp : p.1 ∉ fp := fun z => (nf p.1 z).2.2.2.2.2 p (List.mem_append_left _ hm) rfl
  have st := hs p hp hm
  obtain ⟨hh, ve, de, ce⟩ := hp
  exact ⟨p.1, ⟨hh, p.2, ve, I.base.keep p.1 p.2 k.1 k.2.1 st nfp, de, ce⟩, nfp⟩
theorem off_stack {pins : List (Addr × Obj)} {σ : L2.St} {H : Hp} {s : Shared} (I : Inv X pins σ H s) {p : Addr × Obj} (hm : p ∈ X.pn) : p.1 ∉ frs X.stack := fun z => by
  have k := I.pin p (List.mem_append_left _ hm)
  exact (List.mem_cons.mp (I.stkSub p.1 z)).elim k.2.2.1 k.2.2.2.1
def tFil (te : TE) (K : PySem.W.Frag) : TE := fun σ H Q => te σ H fun v H1 => ∃ (a : Addr) (bs : List Bool), v = .ref a ∧ SqL K H1 a (bs.map V.bl) ∧ bs.length ≤ 1000 ∧ ∀ D, H1 D = none → Q (.ref D) (upd H1 D (.lst ((bs.filter id).map V.bl)))
theorem le_line2 {n : Nat} (h : n < 1000) : n < sizeLine := Nat.lt_trans h (by decide)
theorem filter_take (bs : List Bool) (i : Nat) (h : i < bs.length) : (bs.take (i + 1)).filter id = (bs.take i).filter id ++ (if bs[i] = true then [bs[i]] else []) := by
  rw [List.take_succ, List.filter_append, List.getElem?_eq_getElem h]
  cases bs[i] <;> simp
theorem pe_fil {iter : Expr} {te : TE} {x : Str} {p1 p2 p3 pos : Pos} {scope : Scope} {j : Nat} (hot : L2H.HotC X) (hN : X.N.Nodup) (hj : X.N[j]? = some x) (pi : PE X iter te) (ok : BlkOk X.N X.env.scope scope [(x, j)])
    (hg : ∀ (s : Shared) (H : Hp) (Cd : Addr) (cl : List (Str × Addr)) (fp : List Addr), PG (X.blk s H scope (compEnvC scope cl Cd X.env) fp) (.Name x p1) (gName j))
    (ht : ∀ (s : Shared) (H : Hp) (Cd : Addr) (cl : List (Str × Addr)) (fp : List Addr), ∃ tt, PTs (X.blk s H scope (compEnvC scope cl Cd X.env) fp) [.Name x p2] tt ∧ ∀ σ H' b Q, σ[j]? = some (some (.bl b)) → Q b H' → tt σ H' Q)
    (he : ∀ (s : Shared) (H : Hp) (Cd : Addr) (cl : List (Str × Addr)) (fp : List Addr), PE (X.blk s H scope (compEnvC scope cl Cd X.env) fp) (.Name x p3) (tVar j)) (hs : ∀ z, foldedSetIterable iter X.env z = pure z) :
    PE X (.ListComp (.Name x p3) [⟨.Name x p1, iter, [.Name x p2], 0⟩] scope pos) (tFil te X.K) := by
  refine ⟨fun pins s σ H Q I h => ?_⟩
  have cel : ∀ y ∈ scope.names, y.2 = .free → ∃ c, X.env.cells.lookup y.1 = some c := fun y hy e => I.ok.has _ (ok.free y hy e)
  rw [eval_ListComp]
  refine wpAny_comprehension_free rfl hs (closure_ok cel) ok.kind (fun y hy e => (ok.uniq y hy).trans (congrArg some e)) (thn (pi.run pins s σ H _ I h) fun v s1 hv => ?_)
  obtain ⟨v', H1, I1, r1, a, bs, rfl, hq, hlen, hQ⟩ := hv
  cases r1
  obtain ⟨its, rv, isl, hz⟩ := I1.list hq
  refine wpAny_pyIter_list isl.isList ?_
  have nIt : H1 s1.heap.objs.size = none := I1.hok.fresh (Nat.le_refl _)
  have I2 := I1.kept (t' := s1.toks) (h' := s1.heap.push { cls := .type "list_iterator", data := .fields #[.ref a, .int 0 0] }) fun b o e => Heap.get?_push_of_some _ e
  have fI := I1.fpOk (Nat.le_refl _) nIt
  have st2 : (s1.heap.push { cls := .type "list_iterator", data := .fields #[.ref a, .int 0 0] }).IsListIter s1.heap.objs.size a 0 := ⟨_, Heap.get?_push_size _ rfl, rfl, rfl⟩
  have hitS : s1.heap.objs.size < (s1.heap.push { cls := .type "list_iterator", data := .fields #[.ref a, .int 0 0] }).objs.size := by rw [Heap.size_push]; exact Nat.lt_succ_self _
  generalize hit : s1.heap.objs.size = it at nIt I2 fI st2 hitS ⊢
  generalize hs2 : ({ s1 with heap := s1.heap.push { cls := .type "list_iterator", data := .fields #[.ref a, .int 0 0] } } : Shared) = s2 at I2 ⊢
  have st2 : s2.heap.IsListIter it a 0 := by rw [← hs2]; exact st2
  have hitS : it < s2.heap.objs.size := by rw [← hs2]; exact hitS
  refine wpAny_newObj_type (newEnv_comp ?_) (by show 0 ≤ sizeLine; decide)
  generalize hDe : s2.heap.objs.size = D at hitS
  have nD : H1 D = none := I2.hok.fresh (Nat.le_of_eq hDe)
  have hQ := hQ D nD
  have sq : ∀ u, SqL X.K (upd H1 D u) a (bs.map V.bl) := fun u => (same_upd nD).seq hq
  generalize hs3 : ({ s2 with heap := s2.heap.push { cls := .type "list", data := .seq ([] : List Value).toArray } } : Shared) = s3
  have up3 : ∀ b o, s2.heap.get? b = some o → s3.heap.get? b = some o := fun b o e => by rw [← hs3]; exact Heap.get?_push_of_some _ e
  have I3 : Inv X pins σ (upd H1 D (.lst [])) s3 := by
    rw [← hs3]
    refine I2.laid (t' := s2.toks) (fun b o e => Heap.get?_push_of_some _ e) (Nat.le_of_eq hDe) ⟨Nat.zero_le _, [], 0, .nil, ?_⟩
    rw [← hDe]
    exact Heap.get?_push_size _ rfl
  have h3s : D < s3.heap.objs.size := by rw [← hs3, ← hDe]; show _ < (Heap.push _ _).objs.size; rw [Heap.size_push]; exact Nat.lt_succ_self _
  have nIt3 : ∀ u, upd H1 D u it = none := fun u => by rw [upd_ne (Nat.ne_of_lt hitS)]; exact nIt
  have f3 : ∀ b ∈ [it], FpOk X pins (upd H1 D (.lst [])) b ∧ b < s3.heap.objs.size := fun b hb => by
    have eb := List.mem_singleton.mp hb
    subst eb
    exact ⟨⟨nIt3 _, fI.2⟩, Nat.lt_trans hitS h3s⟩
  have st3 : s3.heap.IsListIter it a 0 := st2.at fun o e => up3 _ _ e
  have I4 := block_start I3 ok hN f3
  have hpg := hg s3 (upd H1 D (.lst [])) s3.heap.objs.size (cellsFrom (s3.heap.objs.size + 1) scope.names (cloFrom X.env.cells scope.names [])) [it]
  obtain ⟨tt, hpt, htt⟩ := ht s3 (upd H1 D (.lst [])) s3.heap.objs.size (cellsFrom (s3.heap.objs.size + 1) scope.names (cloFrom X.env.cells scope.names [])) [it]
  have hpe := he s3 (upd H1 D (.lst [])) s3.heap.objs.size (cellsFrom (s3.heap.objs.size + 1) scope.names (cloFrom X.env.cells scope.names [])) [it]
  show codeAny _ _ (.compStart (.ListComp (.Name x p3) [⟨.Name x p1, iter, [.Name x p2], 0⟩] scope pos) 0 (.ref it) (.ref D) (compEnvC scope (cellsFrom (s3.heap.objs.size + 1) scope.names (cloFrom X.env.cells scope.names [])) s3.heap.objs.size X.env)) _ { s3 with heap := pushCells (s3.heap.push { cls := .type "dict", data := .dict #[] }) scope.names }
  generalize hce : compEnvC scope (cellsFrom (s3.heap.objs.size + 1) scope.names (cloFrom X.env.cells scope.names [])) s3.heap.objs.size X.env = ce at I4 hpg hpt hpe ⊢
  have cL : ce.locals = s3.heap.objs.size := by subst hce; rfl
  generalize hs4 : ({ s3 with heap := pushCells (s3.heap.push { cls := .type "dict", data := .dict #[] }) scope.names } : Shared) = s4 at I4 ⊢
  have st4 : s4.heap.IsListIter it a 0 := st3.at fun o e => by rw [← hs4]; exact pushCells_keeps _ _ _ _ (Heap.get?_push_of_some _ e)
  have fpo : ∀ {σ' : L2.St} {H' : Hp} {s' : Shared}, Inv (X.blk s3 (upd H1 D (.lst [])) scope ce [it]) [] σ' H' s' → H' it = none → FpOk (X.blk s3 (upd H1 D (.lst [])) scope ce [it]) [] H' it := fun {σ' H' s'} I' hn =>
    have m : it ∈ [it] := List.mem_singleton.mpr rfl
    ⟨hn, (I'.ok.exf it m).1, I'.ok.exfs it m, .inl m, fun y c e => (I'.ok.exf it m).2 y c e, fun p hp => nomatch (show p ∈ ([] : List (Addr × Obj)) ++ [] from hp)⟩
  have loop : codeAny (model X.prog X.w) X.A (.compLoop (.ListComp (.Name x p3) [⟨.Name x p1, iter, [.Name x p2], 0⟩] scope pos) 0 (.ref it) (.ref D) ce) (compPost (model X.prog X.w) X.A X.xe none (EP X pins σ Q) (.ref D) s3.heap.objs.size) s4 := by
    refine compLoop_any (fun n s' => ∃ i, Inv (X.blk s3 (upd H1 D (.lst [])) scope ce [it]) [] (wipe σ [j]) (upd H1 D (.lst (((bs.take i).filter id).map V.bl))) s' ∧ s'.heap.IsListIter it a i ∧ i ≤ bs.length ∧ n = bs.length - i) ?_ bs.length ⟨0, I4, st4, Nat.zero_le _, rfl⟩
    rintro n s5 ⟨i, I5, st5, hi, rfl⟩
    obtain ⟨its5, rv5, isl5, hz5⟩ := I5.list (sq _)
    have len5 := rv5.length
    rw [List.length_map] at len5
    obtain ⟨f0, f1, f2, f3', f4, f5⟩ := fpo I5 (nIt3 _)
    by_cases hlt : i < bs.length
    · have hgi : (bs.map V.bl)[i]? = some (.bl bs[i]) := by rw [List.getElem?_map, List.getElem?_eq_getElem hlt]; rfl
      obtain ⟨u, hu, ru⟩ := rv5.get hgi
      refine wpAny_pyNext_list_item st5 isl5.isList (x := u) (by simpa using hu) fun h' st' sb => ?_
      have I6 := I5.turned (t' := s5.toks) (h' := h') (fun b o hb e => (sb.2 b hb).trans e) f0 f1 f3' f4 f5
      obtain ⟨o, e, c, d⟩ := id st'
      refine go_of (s := { s5 with heap := h' }) e c d (by decide) ?_
      have I7 := I6.pinned (fp := [it]) (fun b hb => by have eb := List.mem_singleton.mp hb; subst eb; exact fpo I6 (nIt3 _)) (fun b hb => by have eb := List.mem_singleton.mp hb; subst eb; exact ⟨o, e, fun v z => by rw [d] at z; cases z⟩)
      have hjl : j < (wipe σ [j]).length := by
        rw [wipe_length, I.len]
        exact (List.getElem?_eq_some_iff.mp hj).1
      refine thnF (hpg.run _ _ _ _ (.bl bs[i]) u (fun σ8 H8 => σ8 = (wipe σ [j]).set j (some (.bl bs[i])) ∧ H8 = upd H1 D (.lst (((bs.take i).filter id).map V.bl))) I7 ru ⟨rfl, rfl⟩) fun _ s8 ⟨σ8, H8, I8, e8, eH⟩ => ?_
      subst e8 eH
      have hget : ((wipe σ [j]).set j (some (.bl bs[i])))[j]? = some (some (.bl bs[i])) :=
        List.getElem?_set_self hjl
      refine thnF (hpt.run _ s8 _ _ _ I8 (htt _ _ _ (fun b H9 => b = bs[i] ∧ H9 = upd H1 D (.lst (((bs.take i).filter id).map V.bl))) hget ⟨rfl, rfl⟩)) fun b s9 ⟨H9, I9, eb, e9⟩ => ?_
      subst eb e9
      have fin : ∀ {s' : Shared} {H' : Hp}, Inv (X.blk s3 (upd H1 D (.lst [])) scope ce [it]) ([] ++ pinsAt [it] h') ((wipe σ [j]).set j (some (.bl bs[i]))) H' s' → H' = upd H1 D (.lst (((bs.take (i + 1)).filter id).map V.bl)) →
          ∃ m, m < bs.length - i ∧ ∃ i, Inv (X.blk s3 (upd H1 D (.lst [])) scope ce [it]) [] (wipe σ [j]) (upd H1 D (.lst (((bs.take i).filter id).map V.bl))) s' ∧ s'.heap.IsListIter it a i ∧ i ≤ bs.length ∧ m = bs.length - i := fun {s' H'} I' eH' => by
        subst eH'
        have pin' := I'.pin (it, o) (List.mem_append_right _ (List.mem_append_right _ (mem_pinsAt (List.mem_singleton.mpr rfl) e)))
        refine ⟨bs.length - (i + 1), by omega, i + 1, (I'.unpinned (pins := [])).weak (by rw [List.length_set]) (fun q v eq => ?_), st'.at fun o2 e2 => ?_, hlt, rfl⟩
        · by_cases hq : q = j
          · subst hq
            have := (wipe_some eq).2
            exact absurd (List.mem_singleton.mpr rfl) this
          · rw [List.getElem?_set_ne (Ne.symm hq)]
            exact eq
        · rw [e] at e2
          cases e2
          exact pin'.1
      have ft := filter_take bs i hlt
      cases hbi : bs[i] with
      | false =>
        rw [hbi] at ft
        simp only [Bool.false_eq_true, if_false]
        refine fin I9 ?_
        rw [ft]
        simp
      | true =>
        rw [hbi] at ft
        simp only [if_true]
        refine thnF (hpe.run _ s9 _ _ (fun v H' => v = .bl true ∧ H' = upd H1 D (.lst (((bs.take i).filter id).map V.bl))) I9 ⟨_, by rw [List.getElem?_set_self hjl, hbi], rfl, rfl⟩) fun z s10 ⟨yv, H10, I10, r10, ey, eH⟩ => ?_
        subst ey eH
        refine app_ok (X := X.blk s3 (upd H1 D (.lst [])) scope ce [it]) I10 upd_same (le_line2 ?_) r10 fun s11 I11 => fin I11 ?_
        · rw [List.length_map]
          exact Nat.lt_of_le_of_lt (List.length_filter_le _ _) (by rw [List.length_take]; omega)
        · rw [ft, upd_upd]
          simp
    · have hil : i = bs.length := by omega
      obtain ⟨x1, hotA, hx1⟩ := hot_blk hot I3 (fun b hb => (f3 b hb).1) (fun p _ hm => off_stack I3 hm) I5
      refine list_end_hot hotA st5 isl5.isList (by simp; omega) (fun z => hx1 (by rw [← z]; exact List.mem_singleton.mpr rfl)) fun h' eb => ?_
      have I6 := I5.turned (t' := s5.toks) (h' := h') (fun b o hb e => eb b o hb e) f0 f1 f3' f4 f5
      have I7 : Inv X pins σ _ { s5 with heap := h', toks := s5.toks } := I3.call' (ch := [it]) I6.os I6.base I6.hok I6.bare fun b hb => ⟨(f3 b hb).1.2.2.2.1, (f3 b hb).1.2.1, (f3 b hb).1.2.2.2.2.1, (f3 b hb).1.2.2.2.2.2⟩
      have nC : upd H1 D (.lst (((bs.take i).filter id).map V.bl)) s3.heap.objs.size = none := by
        have z := I6.free
        have z : upd H1 D (.lst (((bs.take i).filter id).map V.bl)) ce.locals = none := z
        rw [cL] at z
        exact z
      obtain ⟨m, hn, _⟩ := I6.loc
      have hn : Heap.Ns h' ce.locals m := hn
      rw [cL] at hn
      refine ⟨m, hn, fun h'' sb => ?_⟩
      obtain ⟨g0, g1, g2, g3, g4, g5⟩ := I3.fpOk (Nat.le_refl _) nC
      refine ⟨.ref D, _, I7.turned (t' := s5.toks) (fun b o hb e => (sb.2 b hb).trans e) g0 g1 g3 g4 g5, rfl, ?_⟩
      rw [hil, List.take_length]
      exact hQ
  exact codeAny_compStart_list loop (wpAny_pyIter_listiter st4 loop)
def filD (d : ED) : ED := fun ρ => (d ρ).bind fun r => match kidsS r.fz with
  | some ds => match boolsOf ds with
    | some bs => if bs.length ≤ 1000 then .ok (.fr 0 ((bs.filter id).map PyData.bool)) else .st
    | none => .st
  | none => .st
theorem rpA_bools {K : PySem.W.Frag} {G : Hp} : ∀ bs : List Bool, RpA K G (bs.map V.bl) (bs.map PyData.bool)
  | [] => .nil
  | b :: bs => .cons (.bl b) (rpA_bools bs)
theorem se_fil {iter : Expr} {d : ED} {x : Str} {p1 p2 p3 pos : Pos} {scope : Scope} (j : Nat) (hot : L2H.HotC X) (hN : X.N.Nodup) (hi : SE X E C iter d) (ok : BlkOk X.N X.env.scope scope [(x, j)])
    (hg : ∀ b : Bk, SG (b.x X scope) (.Name x p1) (.nm j)) (ht : ∀ b : Bk, PE (b.x X scope) (.Name x p2) (tVar j)) (he : ∀ b : Bk, PE (b.x X scope) (.Name x p3) (tVar j)) (hj : X.N[j]? = some x := by rfl) (hs : ∀ z, foldedSetIterable iter X.env z = pure z := by intro _; rfl) :
    SE X E C (.ListComp (.Name x p3) [⟨.Name x p1, iter, [.Name x p2], 0⟩] scope pos) (filD d) := by
  obtain ⟨ti, pi, si⟩ := hi
  refine ⟨_, pe_fil hot hN hj pi ok (fun s H Cd cl fp => (hg ⟨s, H, Cd, cl, fp⟩).p) (fun s H Cd cl fp => ⟨_, pts_one (pt_truth (ht ⟨s, H, Cd, cl, fp⟩) (by intro _; rfl)), fun σ H' b Q e q => ?_⟩) (fun s H Cd cl fp => he ⟨s, H, Cd, cl, fp⟩) hs, ?_⟩
  · exact ⟨_, e, b, rfl, q⟩
  · intro G0 H0 G H σ ρ Q I h
    unfold filD at h
    refine si.useF famO I h fun r y G1 H1 e1 g1 I1 k1 h1 => ?_
    split at h1
    · rename_i ds q
      split at h1
      · rename_i bs q2
        split at h1
        · rename_i hl
          obtain ⟨a, vs, rfl, h2, h3⟩ := k1.kidsS I1.s q
          have := boolsOf_eq q2
          subst this
          have := h3.bools
          subst this
          refine ⟨a, bs, rfl, h2, hl, fun D hD => h1 _ G1 _ (Grow.new I1.s hD) (fresh_list (rpA_bools _) hD I1.s)⟩
        · exact h1.elim
      · exact h1.elim
    · exact h1.elim
theorem hot_suite {X : Cx} {a : Addr} {oe : Obj} {pn : List (Addr × Obj)} {cls : Value} {d : Option Addr} (hz : L2N.Zn cls d oe) (hv : ∃ vs, oe.data = .fields vs) : L2H.HotC (X.suite a ((a, oe) :: pn)) := by
  obtain ⟨vs, hd⟩ := hv
  exact ⟨(a, oe), ⟨rfl, vs, hd, hz.2.2 vs hd⟩, List.mem_cons_self⟩
theorem passN {X : Cx} : Passes (L2N.CX X.prog X.w) X E0 := fun pins σ H s e s' I c => by
  obtain ⟨_, _, _, _, _, _, _, _, _, _, _, _, h⟩ := c
  exact h.elim
/-! ### is True, is False of anything -/
def rIsA2 : R2 := fun x y H Q => ∃ b : Bool, y = .bl b ∧ Q (.bl (decide (x = .bl b))) H
theorem op_isBA : OpR X (compareOp .Is) rIsA2 := by
  intro pins s σ H x y v u Q I rx ry h
  obtain ⟨b, rfl, q⟩ := h
  cases (show u = Value.bool b from ry)
  cases x with
  | bl a =>
    cases (show v = Value.bool a from rx)
    by_cases e : a = b
    · subst e
      exact wpAny_is_self rfl ⟨.bl true, H, I, rfl, by simpa using q⟩
    · exact wpAny_is_other rfl (fun z => e (Value.bool.inj z)) ⟨.bl false, H, I, rfl, by simpa [e] using q⟩
  | non => cases rx; exact wpAny_is_other rfl (fun z => nomatch z) ⟨.bl false, H, I, rfl, by simpa using q⟩
  | int i => obtain ⟨t, rfl⟩ := rx; exact wpAny_is_other rfl (fun z => nomatch z) ⟨.bl false, H, I, rfl, by simpa using q⟩
  | str i => obtain ⟨t, rfl⟩ := rx; exact wpAny_is_other rfl (fun z => nomatch z) ⟨.bl false, H, I, rfl, by simpa using q⟩
  | byt i => obtain ⟨t, rfl⟩ := rx; exact wpAny_is_other rfl (fun z => nomatch z) ⟨.bl false, H, I, rfl, by simpa using q⟩
  | flt i => obtain ⟨t, rfl⟩ := rx; exact wpAny_is_other rfl (fun z => nomatch z) ⟨.bl false, H, I, rfl, by simpa using q⟩
  | ref i => cases rx; exact wpAny_is_other rfl (fun z => nomatch z) ⟨.bl false, H, I, rfl, by simpa using q⟩
  | ty i => cases rx; exact wpAny_is_other rfl (fun z => nomatch z) ⟨.bl false, H, I, rfl, by simpa using q⟩
def isBA : PD → PD → Option PD := fun d e => match e with
  | .bool b => some (.bool (match d with
    | .bool a => decide (a = b)
    | _ => false))
  | _ => none
theorem lk_isBA {K : PySem.W.Frag} : Lk2 K rIsA2 isBA := by
  intro H x y d e z Q hx hy hf
  unfold isBA at hf
  split at hf
  · cases hf
    cases hy
    refine ⟨_, rfl, fun q => ⟨_, rfl, ?_⟩⟩
    cases hx <;> simpa using q
  · cases hf
/-! ### y = x.pop() -/
def asgPop0D (s i : Nat) : SD := fun ρ => match ρ[i]? with
  | some (.ow 0 t) => match (Ty.l0 t)[(Ty.l0 t).length - 1]? with
    | some d => .nx ((ρ.set i (.ow 0 ((Ty.l0 t).dropLast))).set s (.im d))
    | none => .st
  | _ => .st
theorem ss_asgPop0 {x y : Str} {yp xp apos cpos pos : Pos} (s i : Nat) (hN : X.N.Nodup) (hy : Loc X.env.scope y) (hs1 : X.N[s]? = some y := by rfl) (hf : X.fn y = true ∨ X.env.scope.names.lookup y = some .local := by first | exact .inl rfl | exact .inr rfl | assumption)
    (hNi : X.N[i]? = some x := by rfl) (hv : Vis X.env.scope x := by first | exact Or.inl rfl | exact Or.inr (Or.inl rfl) | exact Or.inr (Or.inr rfl)) (hd : (x == ("__debug__" : Str)) = false := by decide) (hcd : (x == ("__classdict__" : Str)) = false := by decide)
    (hp : ∀ to, PE X (.Name x xp) to → PE X (.Call (.Attribute (.Name x xp) "pop" apos) [] [] cpos) (tBM0 X.K "list" rPop to)) (hs : swapsWith (.Call (.Attribute (.Name x xp) "pop" apos) [] [] cpos) (some (.Name y yp)) pos.line X.env = pure false := by rfl) :
    SS X E C (.Assign [.Name y yp] (.Call (.Attribute (.Name x xp) "pop" apos) [] [] cpos) pos) (asgPop0D s i) := by
  refine ⟨_, ps_set hN hs1 hy (hp _ (pe_var hNi hv hd hcd)) hs hf, fun G0 H0 G H σ ρ D I h => ?_⟩
  unfold asgPop0D at h
  split at h
  · rename_i t e
    split at h
    · rename_i d ed
      obtain ⟨a, xs, w, c1, c2, c3, c4, c5, c6⟩ := pop_step (t := Ty.l0 t) I e ed
      have er : ∀ l : List V, l.eraseIdx (l.length - 1) = l.dropLast := fun l => List.eraseIdx_length_sub_one
      have er2 : ∀ l : List PD, l.eraseIdx (l.length - 1) = l.dropLast := fun l => List.eraseIdx_length_sub_one
      rw [er2] at c6
      rw [← c3, er] at c6
      rw [← c3] at c4
      refine ⟨_, getD_some c1, .inl ⟨rfl, _, SqL.of c2⟩, a, xs, w, rfl, rfl, c2, c4, ?_⟩
      exact h _ G _ (Same.refl _) (c6.setIm s c5)
    · exact h.elim
  · exact h.elim
end
end Z

/-! ## ZT -/
set_option Elab.async false
set_option linter.all false
set_option maxRecDepth 100000
set_option maxHeartbeats 2000000
namespace L2
open PySem PySem.Spec PyProof.Rows PySem.W
/-! ### sorted of a list of lists of ints -/
abbrev rowP (b : List Int) : PyData := .list (b.map PyData.int)
def sortR (bs : List (List Int)) : List (List Int) := bs.mergeSort fun p q => decide (p ≤ q)
def rSortedLL (K : PySem.W.Frag) : List V → Hp → VK → Prop := fun vs H Q => ∃ (a : Addr) (xs : List V) (bs : List (List Int)) (P : V → List Int → Prop), vs = [V.ref a] ∧ SqL K H a xs ∧ EachIs (fun x b => P x b ∧ Dp K H x (rowP b)) xs bs ∧
  ∀ (ys : List V) (p : Addr), EachIs P ys (sortR bs) → H p = none → Q (.ref p) (upd H p (.lst ys))
section
variable {X : Cx}
theorem each_vals {P : V → List Int → Prop} : ∀ {us : List Value} {bs : List (List Int)}, EachIs (fun u b => ∃ x, RelV x u ∧ P x b) us bs → ∃ ys, Vals ys us ∧ EachIs P ys bs
  | _, _, .nil => ⟨[], .nil, .nil⟩
  | _, _, .cons ⟨x, h1, h2⟩ t => by
    obtain ⟨ys, k1, k2⟩ := each_vals t
    exact ⟨x :: ys, .cons h1 k1, .cons h2 k2⟩
theorem vals_each {P S : V → List Int → Prop} {T : Value → List Int → Prop} (f : ∀ x u b, RelV x u → S x b → T u b) : ∀ {xs : List V} {us : List Value} {bs : List (List Int)}, Vals xs us → EachIs S xs bs → EachIs T us bs
  | _, _, _, .nil, .nil => .nil
  | _, _, _, .cons h1 t1, .cons h2 t2 => .cons (f _ _ _ h1 h2) (vals_each f t1 t2 (P := P))
theorem cr_sortedLL (hu : X.A.units + 64 < cLine) : CallR X (.builtin "sorted") (rSortedLL X.K) := by
  intro pins s σ H vs us Q I r h
  obtain ⟨a, xs, bs, P, rfl, hs, hp, q⟩ := h
  obtain ⟨its, rv, hl, hz⟩ := I.list hs
  rw [Vals.ref1 r]
  have e : EachIs (fun u b => ∃ x, RelV x u ∧ P x b) its bs := vals_each (P := P) (fun x u b h1 h2 => ⟨x, h1, h2.1⟩) rv hp
  have er : EachIs (fun u b => ∃ as, Reads s.heap u (rowP b) as) its bs := vals_each (P := P) (fun x u b h1 h2 => Dp.reads I _ x u h2.2 h1) rv hp
  have hlb : bs.length = xs.length := hp.length.symm
  refine sorted_data (enc := rowP) (R := fun u b => ∃ x, RelV x u ∧ P x b) hl.isList e er (AllAlike.of fun b b' => by show alikeAll _ _ = true; exact alike_ints b b') (Sortable.others fun b => ⟨fun h => (nomatch h), fun _ h => (nomatch h)⟩) (by rw [hlb]; exact hz) (fun b _ => ?_) fun out h1 h2 => ?_
  · have : (rowP b).depth = 1 := by simp [PyData.depth, rowP, depth_ints]
    rw [this]
    omega
  · have h3 : dataLe false rowP = fun p q => decide (p ≤ q) := dataLe_rows (fun b : List Int => b)
    rw [h3] at h2
    obtain ⟨ys, k1, k2⟩ := each_vals h2
    obtain ⟨ep, he'⟩ := PyProof.Rows.sortedAll_at s.heap its out.toArray
    have hlen : ys.length ≤ sizeLine := by
      rw [k1.length, h1, hlb]
      exact hz
    exact ⟨.ref _, upd H (s.heap.objs.size + 1) (.lst ys), I.laid (t' := s.toks) (fun _ _ => PyProof.Rows.sortedAll_old) (Nat.le_succ _) ⟨hlen, out, ep, k1, he'⟩, rfl, q ys _ k2 (I.hok.fresh (Nat.le_succ _))⟩
end
end L2
namespace Z
open PySem PySem.Spec PyProof.Rows L2
section
variable {X : Cx} {E : XK} {C : CM}
theorem noD_row (b : List Int) : noD (rowP b) = true := by
  show noDs (b.map PyData.int) = true
  induction b with
  | nil => rfl
  | cons x b ih => simpa [noDs, noD] using ih
def rowsOf : List PD → Option (List (List Int))
  | [] => some []
  | .list ds :: r => match intsOf ds, rowsOf r with
    | some a, some b => some (a :: b)
    | _, _ => none
  | _ => none
theorem rowsOf_eq : ∀ {ds : List PD} {bs : List (List Int)}, rowsOf ds = some bs → ds = bs.map rowP
  | [], _, e => by cases e; rfl
  | d :: r, bs, e => by
    cases d <;> first | (simp [rowsOf] at e; done) | skip
    rename_i ds
    unfold rowsOf at e
    split at e
    · rename_i a b e1 e2
      cases e
      rw [intsOf_eq e1, rowsOf_eq e2]
      rfl
    · cases e
theorem rows_each {K : PySem.W.Frag} {G : Hp} : ∀ {bs : List (List Int)} {vs : List V}, RpA K G vs (bs.map rowP) → PySem.W.EachIs (fun x b => Rp K G x (rowP b) ∧ Dp K G x (rowP b)) vs bs
  | [], _, h => by cases h; exact .nil
  | b :: bs, _, h => by
    cases h with
    | cons h1 h2 => exact .cons ⟨h1, Rp.dp _ _ (noD_row b) h1⟩ (rows_each h2)
theorem each_rows {K : PySem.W.Frag} {G : Hp} : ∀ {bs : List (List Int)} {vs : List V}, PySem.W.EachIs (fun x b => Rp K G x (rowP b)) vs bs → RpA K G vs (bs.map rowP)
  | [], _, h => by cases h; exact .nil
  | b :: bs, _, h => by
    cases h with
    | cons h1 h2 => exact .cons h1 (each_rows h2)
@[simp] def sortLD (a : AD) : ED := fun ρ => (a ρ).bind fun rs => match rs with
  | [.im (.list ds)] => match rowsOf ds with
    | some bs => .ok (.fr 0 (@List.map _ PD rowP (sortR bs)))
    | none => .st
  | _ => .st
theorem se_sortedL {e : Expr} {es : List Expr} {a : AD} {p pos : Pos} (hu : X.A.units + 64 < cLine) (hg : Gl X "sorted") (hm : X.mg "sorted" = none) (ha : SA X E C (e :: es) a)
    (he : starEach (e :: es) X.env = (false, eval e X.env) :: starEach es X.env := by rfl) (hpl : (backTo pos (starEach es X.env)).any (·.1) = false := by rfl) :
    SE X E C (.Call (.Name "sorted" p) (e :: es) [] pos) (sortLD a) := by
  obtain ⟨ta, pa, sa⟩ := ha
  refine ⟨_, pe_callB (cr_sortedLL hu) hg hm (by decide +kernel) pa (he := he) (hpl := hpl), ?_⟩
  intro G0 H0 G H σ ρ Q I h
  refine sa.use famO I h fun rs vs G1 H1 e1 g1 I1 k1 h1 => ?_
  split at h1
  · rename_i ds
    split at h1
    · rename_i bs q2
      cases k1 with
      | cons r1 t1 =>
        cases t1
        have r1 : Rp _ G1 _ (.list ds) := r1
        rw [rowsOf_eq q2] at r1
        cases r1 with
        | lst h3 h4 =>
          refine ⟨_, _, bs, fun x b => Rp X.K G1 x (rowP b), rfl, SqL.of (I1.s _ _ h3), ?_, fun ys p hy hl => ?_⟩
          · exact (rows_each h4).mono fun x b h => ⟨h.1, Rp.dp _ _ (noD_row b) (h.1.up I1.s)⟩
          · exact h1 _ G1 _ (Grow.new I1.s hl) (fresh_list (each_rows hy) hl I1.s)
    · exact h1.elim
  · exact h1.elim

/-! ### a part of a tuple (not the whole of it) -/
def slTD (a : ED) (l u : OD) : ED := fun ρ => (a ρ).bind fun r => (l ρ).bind fun lo => (u ρ).bind fun hi => match r.fz with
  | .im (.tuple ds) => if HT.sIx ds.length 0 lo = 0 ∧ HT.sIx ds.length ds.length hi = ds.length then .st else .ok (.im (.tuple (cutL ds lo hi)))
  | _ => .st
theorem se_slT {e : Expr} {lo hi : Option Expr} {a : ED} {l u : OD} {p2 pos : Pos} (ha : SE X E C e a) (hl : SOp X E C lo l) (hu : SOp X E C hi u) : SE X E C (.Subscript e (.Slice lo hi none p2) pos) (slTD a l u) := by
  obtain ⟨ta, pa, sa⟩ := ha
  obtain ⟨tl, pl, sl⟩ := hl
  obtain ⟨tu, pu, su⟩ := hu
  refine ⟨_, pe_slice sl_tup pa pl pu, ?_⟩
  intro G0 H0 G H σ ρ Q I h
  refine sa.useF famO I h fun r1 x G1 H1 e1 g1 I1 k1 h1 => ?_
  refine sl G0 H0 G1 H1 σ ρ _ I1 ?_
  cases el : l ρ with
  | st => rw [el] at h1; exact h1
  | ex c => rw [el] at h1; exact h1
  | ok o1 =>
    rw [el] at h1
    intro G2 H2 g2
    have h2 := OOk.up (show OOk X.K E C G1 H1 Q ((u ρ).bind fun hi => match r1.fz with
      | .im (.tuple ds) => if HT.sIx ds.length 0 o1 = 0 ∧ HT.sIx ds.length ds.length hi = ds.length then .st else .ok (.im (.tuple (cutL ds o1 hi)))
      | _ => .st) from h1) g2
    have I2 := I1.grow g2
    refine su G0 H0 G2 H2 σ ρ _ I2 ?_
    cases eu : u ρ with
    | st => rw [eu] at h2; exact h2
    | ex c => rw [eu] at h2; exact h2
    | ok o2 =>
      rw [eu] at h2
      intro G3 H3 g3
      have I3 := I2.grow g3
      have h3 := OOk.up (show OOk X.K E C G2 H2 Q (match r1.fz with
        | .im (.tuple ds) => if HT.sIx ds.length 0 o1 = 0 ∧ HT.sIx ds.length ds.length o2 = ds.length then .st else .ok (.im (.tuple (cutL ds o1 o2)))
        | _ => .st) from h2) g3
      have k := k1.grow (g2.trans g3)
      split at h3
      · rename_i ds q
        rw [q] at k
        have k : Rp _ G3 x (.tuple ds) := k
        split at h3
        · exact h3.elim
        · rename_i c
          cases k with
          | tup t1 t2 =>
            have hln := t2.length
            refine ⟨_, _, rfl, SqT.of (I3.s _ _ t1), by rw [hln]; exact c, fun p hp => ?_⟩
            exact h3 _ _ _ (Grow.newK I3.s hp) (.tup upd_same ((t2.cut o1 o2).up (same_upd (I3.s.free hp))))
      · exact h3.elim

/-! ### an owned list read as if it were known for ever, while a truth is found -/
def tmpT (i : Nat) (e : TD) : TD := fun ρ => match ρ[i]? with
  | some (.ow n t) => match e (ρ.set i (.im (Ty.dat (n + 1) t))) with
    | .ok b => .ok b
    | _ => .st
  | _ => .st
theorem st_tmp {x : Expr} {e : TD} (i : Nat) (he : ST X E C x e) : ST X E C x (tmpT i e) := by
  obtain ⟨te, pe, se⟩ := he
  refine ⟨te, pe, fun G0 H0 G H σ ρ Q I h => ?_⟩
  unfold tmpT at h
  split at h
  · rename_i n t q
    split at h
    · rename_i b eb
      obtain ⟨G', s', I'⟩ := I.freeze q
      refine se G0 H0 G' H σ _ Q I' ?_
      rw [eb]
      intro G1 H1 g
      exact h G H1 ⟨Same.refl _, g.h, fun a o ha => g.h _ _ (I.s _ _ ha), fun _ _ _ _ h => h⟩
    · exact h.elim
  · exact h.elim
end
end Z

/-! ## ZU -/
set_option Elab.async false
set_option linter.all false
set_option maxRecDepth 100000
set_option maxHeartbeats 2000000
namespace Z
open PySem PySem.Spec PyProof.Rows L2
/-! ### instances of an own class whose attributes hold things known for ever -/
def setP (f : Str) (d : PD) : List (Str × PD) → List (Str × PD)
  | [] => [(f, d)]
  | (g, x) :: r => if g = f then (g, d) :: r else (g, x) :: setP f d r
theorem FldOk.look {K : PySem.W.Frag} {G : Hp} {f : Str} : ∀ {fs : List (Str × PD)} {vs : List (Str × V)}, FldOk K G fs vs → ∀ {d : PD}, fs.lookup f = some d → ∃ v, vs.lookup f = some v ∧ Rp K G v d
  | _, _, .nil, _, e => nomatch e
  | (g, d) :: fs, (_, v) :: vs, .cons r h, _, e => by
    unfold List.lookup at e ⊢
    cases q : f == g with
    | true => rw [q] at e; cases e; exact ⟨v, rfl, r⟩
    | false => rw [q] at e; exact FldOk.look h e
theorem FldOk.none {K : PySem.W.Frag} {G : Hp} {f : Str} : ∀ {fs : List (Str × PD)} {vs : List (Str × V)}, FldOk K G fs vs → fs.lookup f = none → vs.lookup f = none
  | _, _, .nil, _ => rfl
  | (g, d) :: fs, (_, v) :: vs, .cons r h, e => by
    unfold List.lookup at e ⊢
    cases q : f == g with
    | true => rw [q] at e; cases e
    | false => rw [q] at e; exact FldOk.none h e
theorem FldOk.len {K : PySem.W.Frag} {G : Hp} : ∀ {fs : List (Str × PD)} {vs : List (Str × V)}, FldOk K G fs vs → vs.length = fs.length
  | _, _, .nil => rfl
  | _, _, .cons _ h => by rw [List.length_cons, List.length_cons, FldOk.len h]
theorem FldOk.put {K : PySem.W.Frag} {G : Hp} {f : Str} {d : PD} {v : V} (r : Rp K G v d) : ∀ {fs : List (Str × PD)} {vs : List (Str × V)}, FldOk K G fs vs → FldOk K G (setP f d fs) (putF f v vs)
  | _, _, .nil => .cons r .nil
  | (g, x) :: fs, (_, u) :: vs, .cons r1 h => by
    unfold setP putF
    by_cases q : g = f
    · rw [if_pos q, if_pos q]; exact .cons r h
    · rw [if_neg q, if_neg q]; exact .cons r1 (FldOk.put r h)
structure ObjK (K : PySem.W.Frag) (Cl : Addr) (fl : List Str) : Prop where
  c : Cls K Cl
  na : ∀ f ∈ fl, NoAttr K Cl f
section
variable {K : PySem.W.Frag} {G0 H0 G H G' H' : Hp} {σ : L2.St} {ρ : Env} {F : List Addr}
theorem EnvOk.dropOb (I : EnvOk K G0 H0 G H σ ρ) {j : Nat} {p Cl : Addr} {fs : List (Str × PD)} (hj : ρ[j]? = some (.ob p Cl fs)) : σ.getD j none = some (.ref p) ∧ EnvR K G0 H0 G H σ (ρ.set j .no) [p] ∧ ∃ dx vs, H p = some (.ins Cl dx vs) ∧ FldOk K G fs vs := by
  obtain ⟨len, b, w, hw⟩ := I
  obtain ⟨x1, x2, x3, dx, vs, x4, x5⟩ := hw j _ hj
  refine ⟨x1, ⟨by simp [len], b, fun a => if a = p then none else w a, fun i e he => ?_, fun a ha => ?_⟩, dx, vs, x4, x5⟩
  · by_cases c : j = i
    · subst c
      have hl : j < ρ.length := (List.getElem?_eq_some_iff.mp hj).1
      rw [List.getElem?_set_self hl] at he
      cases he
      trivial
    · rw [List.getElem?_set_ne c] at he
      refine (hw i e he).relabel fun a ha => ?_
      show (if a = p then none else w a) = some i
      rw [if_neg]
      · exact ha
      · intro q
        subst q
        rw [x2] at ha
        exact c (Option.some.inj ha)
  · rw [List.mem_singleton] at ha
    subst ha
    exact ⟨if_pos rfl, x3⟩
theorem EnvR.setOb {p Cl dx : Addr} {j : Nat} {fs : List (Str × PD)} {vs : List (Str × V)} (I : EnvR K G0 H0 G H σ ρ (p :: F)) (hp : p ∉ F) (e1 : σ.getD j none = some (.ref p)) (e2 : H p = some (.ins Cl dx vs)) (e3 : FldOk K G fs vs) : EnvR K G0 H0 G H σ (ρ.set j (.ob p Cl fs)) F := by
  obtain ⟨len, b, w, hw, hF⟩ := I
  obtain ⟨n1, n2, n3⟩ := hF p List.mem_cons_self
  refine ⟨by simp [len], b, fun a => if a = p then some j else w a, fun i e he => ?_, fun a ha => ?_⟩
  · by_cases c : j = i
    · subst c
      by_cases hl : j < ρ.length
      · rw [List.getElem?_set_self hl] at he
        cases he
        exact ⟨e1, if_pos rfl, ⟨n2, n3⟩, dx, vs, e2, e3⟩
      · rw [List.getElem?_eq_none (by simp; omega)] at he
        cases he
    · rw [List.getElem?_set_ne c] at he
      refine (hw i e he).relabel fun a ha => ?_
      show (if a = p then some j else w a) = some i
      rw [if_neg]
      · exact ha
      · intro q
        subst q
        rw [n1] at ha
        cases ha
  · refine ⟨?_, (hF a (List.mem_cons_of_mem _ ha)).2⟩
    show (if a = p then some j else w a) = none
    rw [if_neg (fun q : a = p => hp (by rw [← q]; exact ha))]
    exact (hF a (List.mem_cons_of_mem _ ha)).1
/-- what nobody owns is written -/
theorem EnvR.write {p : Addr} {o : HO} (I : EnvR K G0 H0 G H σ ρ (p :: F)) : EnvR K G0 H0 G (upd H p o) σ ρ (p :: F) := by
  obtain ⟨len, b, w, hw, hF⟩ := I
  obtain ⟨n1, n2, n3⟩ := hF p List.mem_cons_self
  refine ⟨len, ⟨b.g, fun c u e => ?_, fun c u e => ?_, b.m⟩, w, fun j e he => ?_, hF⟩
  · rw [upd_ne (ne_of_none e n3)]
    exact b.h _ _ e
  · rw [upd_ne (ne_of_none e n2)]
    exact b.s _ _ e
  · have h := hw j e he
    cases e with
    | no => trivial
    | im d => exact h
    | vv v => exact h
    | ob a C fs =>
      obtain ⟨z1, z2, z3, dx, vs, z4, z5⟩ := h
      refine ⟨z1, z2, z3, dx, vs, ?_, z5⟩
      rw [upd_ne]
      · exact z4
      · intro q
        subst q
        rw [n1] at z2
        cases z2
    | ow m u =>
      obtain ⟨y, y1, y2, y3, y4, y5⟩ := h
      refine ⟨y, y1, y2, ATy.ok_keep (Same.refl _) _ _ (fun d hd => ?_) y3, y4, y5⟩
      rw [upd_ne]
      intro q
      subst q
      have := (y5 d hd).1
      rw [n1] at this
      cases this
end
section
variable {X : Cx} {E : XK} {C : CM}
/-- self.f -/
def fldD (Cl : Addr) (i : Nat) (f : Str) : ED := fun ρ => match ρ[i]? with
  | some (.ob _ D fs) => if D = Cl then match fs.lookup f with
    | some d => .ok (.im d)
    | none => .st
    else .st
  | _ => .st
theorem se_fld {Cl : Addr} {fl : List Str} (i : Nat) {y f : Str} {yp pos : Pos} (O : ObjK X.K Cl fl) (hf : f ∈ fl) (hN : X.N[i]? = some y := by rfl) (hv : Vis X.env.scope y := by first | exact Or.inl rfl | exact Or.inr (Or.inl rfl) | exact Or.inr (Or.inr rfl)) (hd : (y == ("__debug__" : Str)) = false := by decide) (hcd : (y == ("__classdict__" : Str)) = false := by decide)
    (hb : attributeBase (.Name y yp) f X.env (eval (.Name y yp) X.env) = eval (.Name y yp) X.env := by rfl) : SE X E C (.Attribute (.Name y yp) f pos) (fldD Cl i f) := by
  refine ⟨_, pe_fld (pe_var hN hv hd hcd) hb, fun G0 H0 G H σ ρ Q I h => ?_⟩
  unfold fldD at h
  split at h
  · rename_i p D fs e
    by_cases c : D = Cl
    · subst c
      rw [if_pos rfl] at h
      split at h
      · rename_i d ed
        obtain ⟨e1, _, dx, vs, e2, e3⟩ := I.dropOb e
        obtain ⟨v, e4, e5⟩ := e3.look ed
        exact ⟨_, getD_some e1, p, D, dx, vs, v, rfl, e2, O.c, O.na f hf, e4, h v G H (Grow.refl I.s) e5⟩
      · exact h.elim
    · rw [if_neg c] at h; exact h.elim
  · exact h.elim
/-- self.f = e -/
def setFD (Cl : Addr) (i : Nat) (f : Str) (e : ED) : SD := fun ρ => match e ρ with
  | .ok r => match r.fz, ρ[i]? with
    | .im d, some (.ob p D fs) => if D = Cl ∧ fs.length < 1000 then .nx (ρ.set i (.ob p D (setP f d fs))) else .st
    | _, _ => .st
  | .ex c => .ex c
  | .st => .st
theorem ss_setF {Cl : Addr} {fl : List Str} (i : Nat) {y f : Str} {value : Expr} {e : ED} {yp pos' pos : Pos} (O : ObjK X.K Cl fl) (hf : f ∈ fl) (he : SE X E C value e) (hN : X.N[i]? = some y := by rfl) (hv : Vis X.env.scope y := by first | exact Or.inl rfl | exact Or.inr (Or.inl rfl) | exact Or.inr (Or.inr rfl)) (hd : (y == ("__debug__" : Str)) = false := by decide) (hcd : (y == ("__classdict__" : Str)) = false := by decide)
    (hs : swapsWith value (some (.Attribute (.Name y yp) f pos')) pos.line X.env = pure false := by rfl) : SS X E C (.Assign [.Attribute (.Name y yp) f pos'] value pos) (setFD Cl i f e) := by
  obtain ⟨te, pe, se⟩ := he
  refine ⟨_, ps_fld (pe_var hN hv hd hcd) pe hs, fun G0 H0 G H σ ρ D I h => ?_⟩
  refine se G0 H0 G H σ ρ _ I ?_
  unfold setFD at h
  cases ee : e ρ with
  | ex c => rw [ee] at h; exact fun G' H' g => h G' H' (I.b.trans g)
  | st => rw [ee] at h; exact h
  | ok r =>
    rw [ee] at h
    simp only at h
    intro v G1 H1 g hr
    have I1 := I.grow g
    split at h
    · rename_i d p Dd fs ez eo
      by_cases c : Dd = Cl ∧ fs.length < 1000
      · rw [if_pos c] at h
        obtain ⟨c1, c2⟩ := c
        subst c1
        have key : ∃ G2, Same G1 G2 ∧ EnvOk X.K G0 H0 G2 H1 σ ρ ∧ Rp X.K G2 v d := by
          cases r with
          | im d' =>
            have : d' = d := R.im.inj ez
            subst this
            exact ⟨G1, Same.refl _, I1, hr⟩
          | ro n t => cases ez
          | fr n t =>
            have ed : Ty.dat (n + 1) t = d := R.im.inj ez
            subst ed
            obtain ⟨z, z1, z2, z3, z4, z5⟩ := id hr
            have J := I.fresh g (F := ATy.adr (n + 1) z) fun a ha => z5 a ha
            exact J.fz (n := n) (t := t) ⟨z, z1, z2, z3, z4, fun a ha => ha⟩
        obtain ⟨G2, s2, I2, r2⟩ := key
        obtain ⟨e1, J, dx, vs, e2, e3⟩ := I2.dropOb eo
        refine ⟨_, getD_some e1, p, Dd, dx, vs, rfl, e2, O.c, O.na f hf, by rw [e3.len]; exact c2, ?_⟩
        have J2 : EnvR X.K G0 H0 G2 (upd H1 p (.ins Dd dx (putF f v vs))) σ (ρ.set i .no) [p] := J.write
        have J3 := J2.setOb (F := []) (Cl := Dd) (fs := setP f d fs) (by simp) e1 upd_same (e3.put r2)
        rw [List.set_set] at J3
        exact h σ G2 _ (g.g.trans s2) J3.ok
      · rw [if_neg c] at h; exact h.elim
    · exact h.elim
end

/-! ### a def or a method whose first argument is an instance -/
inductive OB where
  | ok (r : R) (fs : List (Str × PD))
  | ex (c : String) (fs : List (Str × PD))
  | st
def BOk (K : PySem.W.Frag) (E : XK) (C : CM) (Cl p : Addr) (G H0 : Hp) (Q : VK) : OB → Prop
  | .ok r fs => ∀ v G' H', Grow G H0 G' H' → G' p = none → (∃ dx ws, H' p = some (.ins Cl dx ws) ∧ FldOk K G' fs ws) → ROk K H0 G' H' r v → Q v H'
  | .ex c fs => ∀ G' H', Grow G H0 G' H' → G' p = none → (∃ dx ws, H' p = some (.ins Cl dx ws) ∧ FldOk K G' fs ws) → E (C c) none H'
  | .st => False
def SpO (K : PySem.W.Frag) (C : CM) (Cl : Addr) (n : Nat) (f : Addr → List (Str × PD) → List PD → OB) : Sp := fun vs H Q E => ∃ (G : Hp) (p dx : Addr) (ws : List (Str × V)) (fs : List (Str × PD)) (us : List V) (ds : List PD),
  vs = .ref p :: us ∧ Same G H ∧ H p = some (.ins Cl dx ws) ∧ G p = none ∧ FldOk K G fs ws ∧ RpA K G us ds ∧ ds.length = n ∧ BOk K E C Cl p G (less H [p]) Q (f p fs ds)
def isOb (p Cl : Addr) : Option Ent → Option (List (Str × PD))
  | some (.ob q D fs) => if q = p ∧ D = Cl then some fs else none
  | _ => none
theorem isOb_eq {p Cl : Addr} {e : Option Ent} {fs : List (Str × PD)} (h : isOb p Cl e = some fs) : e = some (.ob p Cl fs) := by
  unfold isOb at h
  split at h
  · split at h
    · rename_i c
      cases h
      rw [c.1, c.2]
    · cases h
  · cases h
def outO (p Cl : Addr) : SO → OB
  | .nx ρ => match isOb p Cl (List.head? ρ) with
    | some fs => .ok (.im .none) fs
    | none => .st
  | .rv r ρ => match isOb p Cl (List.head? ρ) with
    | some fs => .ok r fs
    | none => .st
  | .ev c ρ => match isOb p Cl (List.head? ρ) with
    | some fs => .ex c fs
    | none => .st
  | _ => .st
def denO (Cl : Addr) (N k : Nat) (d : SD) : Addr → List (Str × PD) → List PD → OB := fun p fs ds => outO p Cl (d (.ob p Cl fs :: ds.map Ent.im ++ List.replicate (N - (k + 1)) Ent.no))
theorem EnvOk.ob0 {K : PySem.W.Frag} {G0 H0 G H : Hp} {σ : L2.St} {ρ : Env} {i : Nat} {p Cl : Addr} {fs : List (Str × PD)} (I : EnvOk K G0 H0 G H σ ρ) (h : ρ[i]? = some (.ob p Cl fs)) : G p = none ∧ ∃ dx ws, H p = some (.ins Cl dx ws) ∧ FldOk K G fs ws := by
  obtain ⟨len, b, w, hw⟩ := I
  obtain ⟨x1, x2, x3, dx, vs, x4, x5⟩ := hw i _ h
  exact ⟨x3.1, dx, vs, x4, x5⟩
theorem BOk.out {K : PySem.W.Frag} {E : XK} {C : CM} {G0 H0 G : Hp} {Cl p : Addr} {Q : VK} {o : SO} (h : BOk K E C Cl p G0 H0 Q (outO p Cl o)) : SOk K E C G0 H0 G { nx := fun _ H' => Q .non H', rt := Q } o := by
  cases o with
  | nx ρ =>
    intro σ G' H' _ I
    unfold outO at h
    simp only at h
    split at h
    · rename_i fs e
      have e := isOb_eq e
      rw [List.head?_eq_getElem?] at e
      obtain ⟨g1, g2⟩ := I.ob0 e
      exact h .non G' H' I.b g1 g2 .non
    · exact h.elim
  | rv r ρ =>
    intro v σ G' H' _ I hr
    unfold outO at h
    simp only at h
    split at h
    · rename_i fs e
      have e := isOb_eq e
      rw [List.head?_eq_getElem?] at e
      obtain ⟨g1, g2⟩ := I.ob0 e
      exact h v G' H' I.b g1 g2 hr
    · exact h.elim
  | ev c0 ρ =>
    intro σ G' H' _ I
    unfold outO at h
    simp only at h
    split at h
    · rename_i fs e
      have e := isOb_eq e
      rw [List.head?_eq_getElem?] at e
      obtain ⟨g1, g2⟩ := I.ob0 e
      exact h G' H' I.b g1 g2
    · exact h.elim
  | rt r => exact h.elim
  | ex c => exact h.elim
  | bk ρ => exact h.elim
  | ct ρ => exact h.elim
  | st => exact h.elim
theorem start_okO {K : PySem.W.Frag} {G H : Hp} {N : List Str} {vs : List V} {ds : List PD} {k : Nat} {p Cl dx : Addr} {ws : List (Str × V)} {fs : List (Str × PD)} (s : Same G H) (r : RpA K G vs ds) (hn : ds.length = k) (hN : k + 1 ≤ N.length) (x1 : H p = some (.ins Cl dx ws)) (x2 : G p = none) (x3 : FldOk K G fs ws) :
    EnvOk K G (less H [p]) G H (L2.start N (.ref p :: vs)) (.ob p Cl fs :: ds.map Ent.im ++ List.replicate (N.length - (k + 1)) Ent.no) := by
  have hl := r.length
  refine ⟨by simp [L2.start]; omega, ⟨Same.refl _, less_same, s, fun _ _ _ _ h => h⟩, fun a => if a = p then some 0 else none, fun i e he => ?_⟩
  cases i with
  | zero =>
    cases he
    exact ⟨rfl, if_pos rfl, ⟨x2, less_in (List.mem_singleton.mpr rfl)⟩, dx, ws, x1, x3⟩
  | succ i =>
    have he : (ds.map Ent.im ++ List.replicate (N.length - (k + 1)) Ent.no)[i]? = some e := by simpa using he
    by_cases h : i < ds.length
    · rw [List.getElem?_append_left (by simpa using h)] at he
      rw [List.getElem?_map] at he
      cases q : ds[i]? with
      | none => rw [q] at he; cases he
      | some d =>
        rw [q] at he
        cases he
        obtain ⟨v, e1, e2⟩ := r.getD q
        refine ⟨v, ?_, e2⟩
        unfold L2.start
        rw [List.getD_eq_getElem?_getD, List.getElem?_append_left (by simp [hl]; omega), List.getElem?_map]
        show ((vs[i]?).map some).getD none = some v
        rw [e1]
        rfl
    · rw [List.getElem?_append_right (by simpa using h)] at he
      have e2 := List.mem_of_getElem? he
      rw [List.mem_replicate] at e2
      rw [e2.2]
      trivial
section
variable {P : Program} {w : World} {K : PySem.W.Frag} {mg : Str → Option Value} {base : Heap} {C : CM}
theorem fnOk_ofO {Cl : Addr} {x qual : Str} {params : Arguments} {body : List Stmt} {scope : Scope} {f : Addr} {fd : FuncData} {N ps : List Str} {k n : Nat} {den : SD} (F : FunD K x qual params body scope [] [] f fd) (S : FnScope N ps scope) (hn : ps.length = n + 1) (hN : n + 1 ≤ N.length)
    (hbody : ∀ (cdv : Value) (A : Around) (outer : List PySem.Env) (s : Shared) (H : Hp) (E : XK), Room k (A.deeper (envOfC qual scope s.heap.objs.size f cdv)) →
      SB (cxOf (L2N.CX P w) P w K mg base N qual scope f cdv A outer s H E) E C body den) :
    FnOk P w K mg base (L2N.CX P w) (k + 1) f fd ps (SpO K C Cl n (denO Cl N.length n den)) := by
  refine F.ok S (fun vs H Q E h => ?_) (fun cdv A outer s H vs Q E hr h => ?_)
  · obtain ⟨G, p, dx, ws, fs, us, ds, rfl, s, _, _, _, r, l, _⟩ := h
    rw [List.length_cons, r.length, l, hn]
  · obtain ⟨G, p, dx, ws, fs, us, ds, rfl, sm, x1, x2, x3, r, l, q⟩ := h
    obtain ⟨t, pp, sim⟩ := hbody cdv A outer s H E hr
    exact ⟨t, pp, sim G (less H [p]) G H _ _ _ (start_okO sm r l hN x1 x2 x3) (BOk.out q)⟩
/-- a def whose first argument is an instance -/
structure CalO (P : Program) (w : World) (K : PySem.W.Frag) (mg : Str → Option Value) (base : Heap) (C : CM) (Cl : Addr) (x : Str) (k n : Nat) (ps : List Str) (fn : Addr → List (Str × PD) → List PD → OB) : Prop where
  p : ∃ (f : Addr) (fd : FuncData), FnOk P w K mg base (L2N.CX P w) k f fd ps (SpO K C Cl n fn) ∧ mg x = some (.ref f) ∧ PySem.W.keepIn K (.ref f) = true ∧ Binds K fd ps []
/-- a method -/
structure CalMt (P : Program) (w : World) (K : PySem.W.Frag) (mg : Str → Option Value) (base : Heap) (C : CM) (Cl : Addr) (m : Str) (k n : Nat) (ps : List Str) (fn : Addr → List (Str × PD) → List PD → OB) : Prop where
  p : ∃ (f : Addr) (fd : FuncData), Cls K Cl ∧ Meth K Cl m f ∧ FnOk P w K mg base (L2N.CX P w) k f fd ps (SpO K C Cl n fn) ∧ Binds K fd ps []
/-- the making of an instance -/
structure CalMk (P : Program) (w : World) (K : PySem.W.Frag) (mg : Str → Option Value) (base : Heap) (C : CM) (Cl : Addr) (x : Str) (k n : Nat) (ps : List Str) (fn : Addr → List (Str × PD) → List PD → OB) : Prop where
  p : ∃ (f : Addr) (fd : FuncData), Mk K Cl f ∧ FnOk P w K mg base (L2N.CX P w) k f fd ps (SpO K C Cl n fn) ∧ mg x = some (.ref Cl) ∧ Binds K fd ps []
end
section
variable {X : Cx} {E : XK} {C : CM}
/-- the call, the instance in entry j -/
def callO (Cl : Addr) (f : Addr → List (Str × PD) → List PD → OB) (ok : List (Str × PD) → Bool) (j : Nat) (a : AD) : EX := fun ρ => match ρ[j]? with
  | some (.ob p D fs) => if D = Cl ∧ ok fs = true then match noX (a ρ) with
    | .ok rs => if rs.all R.isIm then match f p fs (rs.map R.dat) with
      | .ok (.im d) fs' => .ok (.im d) (ρ.set j (.ob p D fs'))
      | .ok (.fr n t) fs' => .ok (.fr n t) (ρ.set j (.ob p D fs'))
      | .ok (.ro _ _) _ => .st
      | .ex c fs' => .ex c (ρ.set j (.ob p D fs'))
      | .st => .st
      else .st
    | _ => .st
    else .st
  | _ => .st
theorem EnvR.gp {K : PySem.W.Frag} {G0 H0 G H : Hp} {σ : L2.St} {ρ : Env} {p : Addr} {F : List Addr} (I : EnvR K G0 H0 G H σ ρ (p :: F)) : G p = none := by
  obtain ⟨len, b, w, hw, hF⟩ := I
  exact (hF p List.mem_cons_self).2.1
theorem callO_sp {K : PySem.W.Frag} {Cl p : Addr} {n j : Nat} {f : Addr → List (Str × PD) → List PD → OB} {fs : List (Str × PD)} {G0 H0 G G1 H1 : Hp} {σ : L2.St} {ρ : Env} {Q : VK} {rs : List R} {vs : List V} (I1 : EnvOk K G0 H0 G1 H1 σ ρ) (e : ρ[j]? = some (.ob p Cl fs)) (s : Same G G1) (r : RpA K G1 vs (rs.map R.dat)) (hn : rs.length = n)
    (h : XOk K E C G0 H0 G σ Q (match f p fs (rs.map R.dat) with
      | .ok (.im d) fs' => .ok (.im d) (ρ.set j (.ob p Cl fs'))
      | .ok (.fr n t) fs' => .ok (.fr n t) (ρ.set j (.ob p Cl fs'))
      | .ok (.ro _ _) _ => .st
      | .ex c fs' => .ex c (ρ.set j (.ob p Cl fs'))
      | .st => .st)) : SpO K C Cl n f (.ref p :: vs) H1 Q E := by
  obtain ⟨e1, J, dx, ws, e2, e3⟩ := I1.dropOb e
  refine ⟨G1, p, dx, ws, fs, vs, rs.map R.dat, rfl, I1.s, e2, J.gp, e3, r, by rw [List.length_map]; exact hn, ?_⟩
  have JL := J.less
  have one : ∀ {G' H'}, Grow G1 (less H1 [p]) G' H' → G' p = none → EnvR K G0 H0 G' H' σ (ρ.set j .no) [p] := fun g gp => JL.fresh g fun a ha => by
    rw [List.mem_singleton] at ha
    subst ha
    exact ⟨less_in (List.mem_singleton.mpr rfl), gp⟩
  cases ef : f p fs (rs.map R.dat) with
  | ok r fs' =>
    rw [ef] at h
    cases r with
    | im d =>
      intro v G' H' g gp ⟨dx', ws', h1, h2⟩ hr
      have R2 := (one g gp).setOb (F := []) (by simp) e1 h1 h2
      rw [List.set_set] at R2
      exact h v G' H' [] (s.trans g.g) R2 hr
    | ro n t => exact h.elim
    | fr n t =>
      intro v G' H' g gp ⟨dx', ws', h1, h2⟩ hr
      obtain ⟨z, z1, z2, z3, z4, z5⟩ := hr
      have R1 := JL.fresh g (F := p :: ATy.adr (n + 1) z) fun a ha => by
        rcases List.mem_cons.mp ha with q | q
        · rw [q]
          exact ⟨less_in (List.mem_singleton.mpr rfl), gp⟩
        · exact z5 a q
      have np : p ∉ ATy.adr (n + 1) z := fun q => by
        obtain ⟨xs, hx⟩ := ATy.in_heap _ _ z3 p q
        rw [h1] at hx
        cases hx
      have R2 := R1.setOb np e1 h1 h2
      rw [List.set_set] at R2
      exact h v G' H' (ATy.adr (n + 1) z) (s.trans g.g) R2 ⟨z, z1, z2, z3, z4, fun a ha => ha⟩
  | ex c fs' =>
    rw [ef] at h
    intro G' H' g gp ⟨dx', ws', h1, h2⟩
    have R2 := (one g gp).setOb (F := []) (by simp) e1 h1 h2
    rw [List.set_set] at R2
    exact h G' H' (s.trans g.g) R2.ok
  | st => rw [ef] at h; exact h.elim
theorem sim_callO {K : PySem.W.Frag} {Cl : Addr} {n j : Nat} {f : Addr → List (Str × PD) → List PD → OB} {ta : TA} {a : AD} (hn : ∀ ρ rs, a ρ = .ok rs → rs.length = n) (ha : SimA K E C ta a) : SimX K E C (tCall (SpO K C Cl n f) [] E (tCons (tVar j) ta)) (callO Cl f (fun _ => true) j a) := by
  intro G0 H0 G H σ ρ Q I h
  unfold callO at h
  split at h
  · rename_i p D fs e
    by_cases c : D = Cl ∧ true = true
    · rw [if_pos c] at h
      obtain ⟨rfl, _⟩ := c
      obtain ⟨e1, _⟩ := I.dropOb e
      refine ⟨_, getD_some e1, ?_⟩
      refine ha G0 H0 G H σ ρ _ I ?_
      cases ea : a ρ with
      | ex c => rw [ea] at h; exact h.elim
      | st => rw [ea] at h; exact h.elim
      | ok rs =>
        rw [ea] at h
        simp only [noX] at h
        intro vs G1 H1 g1 k1
        by_cases c : rs.all R.isIm = true
        · rw [if_pos c] at h
          show SpO K C D n f (.ref p :: vs ++ []) H1 Q E
          rw [List.append_nil]
          exact callO_sp (I.grow g1) e g1.g (k1.ims (ims_all c)) (hn _ _ ea) h
        · rw [if_neg c] at h; exact h.elim
    · rw [if_neg c] at h; exact h.elim
  · exact h.elim
theorem sx_callO {Cl : Addr} {k kk n j : Nat} {ps : List Str} {fn : Addr → List (Str × PD) → List PD → OB} {x y : Str} {es : List Expr} {a : AD} {p yp pos : Pos} (G : CalO X.prog X.w X.K X.mg X.base C Cl x k n ps fn) (hr : Room kk X.A) (hk : k ≤ kk) (hx : Passes (L2N.CX X.prog X.w) X E)
    (hl : ALen a n) (ha : SA X E C es a) (hN : X.N[j]? = some y := by rfl) (hv : Vis X.env.scope y := by first | exact Or.inl rfl | exact Or.inr (Or.inl rfl) | exact Or.inr (Or.inr rfl)) (hd : (y == ("__debug__" : Str)) = false := by decide) (hcd : (y == ("__classdict__" : Str)) = false := by decide)
    (hg : Gl X x := by rfl) (hdb : (x == ("__debug__" : Str)) = false := by decide) (he : starEach (.Name y yp :: es) X.env = (false, eval (.Name y yp) X.env) :: starEach es X.env := by rfl) (hpl : (backTo pos (starEach es X.env)).any (·.1) = false := by rfl) :
    SX X E C (.Call (.Name x p) (.Name y yp :: es) [] pos) (callO Cl fn (fun _ => true) j a) := by
  obtain ⟨ta, pa, sa⟩ := ha
  obtain ⟨f, fd, F, hm, hkp, hb⟩ := G.p
  exact ⟨_, pe_call F (hr.mono hk) hg hm hkp hb .nil hx (pa_cons (pe_var hN hv hd hcd) pa he) hdb he hpl, sim_callO hl.l sa⟩
/-- y.m(..) -/
def callMt (Cl : Addr) (m : Str) (f : Addr → List (Str × PD) → List PD → OB) (j : Nat) (a : AD) : EX := callO Cl f (fun fs => (fs.lookup m).isNone) j a
theorem sim_callMt {K : PySem.W.Frag} {Cl : Addr} {m : Str} {n j : Nat} {f : Addr → List (Str × PD) → List PD → OB} {ta : TA} {a : AD} (hn : ∀ ρ rs, a ρ = .ok rs → rs.length = n) (ha : SimA K E C ta a) : SimX K E C (tMeth Cl m (SpO K C Cl n f) [] E (tVar j) ta) (callMt Cl m f j a) := by
  intro G0 H0 G H σ ρ Q I h
  unfold callMt callO at h
  split at h
  · rename_i p D fs e
    by_cases c : D = Cl ∧ (fs.lookup m).isNone = true
    · rw [if_pos c] at h
      obtain ⟨rfl, hnone⟩ := c
      obtain ⟨e1, _, dx, ws, e2, e3⟩ := I.dropOb e
      refine ⟨_, getD_some e1, p, dx, ws, rfl, e2, e3.none (Option.isNone_iff_eq_none.mp hnone), ?_⟩
      refine ha G0 H0 G H σ ρ _ I ?_
      cases ea : a ρ with
      | ex c => rw [ea] at h; exact h.elim
      | st => rw [ea] at h; exact h.elim
      | ok rs =>
        rw [ea] at h
        simp only [noX] at h
        intro vs G1 H1 g1 k1
        by_cases c : rs.all R.isIm = true
        · rw [if_pos c] at h
          show SpO K C D n f (.ref p :: (vs ++ [])) H1 Q E
          rw [List.append_nil]
          exact callO_sp (I.grow g1) e g1.g (k1.ims (ims_all c)) (hn _ _ ea) h
        · rw [if_neg c] at h; exact h.elim
    · rw [if_neg c] at h; exact h.elim
  · exact h.elim
theorem sx_callMt {Cl : Addr} {k kk n j : Nat} {ps : List Str} {fn : Addr → List (Str × PD) → List PD → OB} {m y : Str} {e : Expr} {es : List Expr} {a : AD} {yp apos pos : Pos} {pl : Sem Bool} (G : CalMt X.prog X.w X.K X.mg X.base C Cl m k n ps fn) (hr : Room kk X.A) (hk : k ≤ kk) (hx : Passes (L2N.CX X.prog X.w) X E)
    (hl : ALen a n) (ha : SA X E C (e :: es) a) (hN : X.N[j]? = some y := by rfl) (hv : Vis X.env.scope y := by first | exact Or.inl rfl | exact Or.inr (Or.inl rfl) | exact Or.inr (Or.inr rfl)) (hd : (y == ("__debug__" : Str)) = false := by decide) (hcd : (y == ("__classdict__" : Str)) = false := by decide)
    (he : starEach (e :: es) X.env = (false, eval e X.env) :: starEach es X.env := by rfl) (hpl : (backTo pos (starEach es X.env)).any (·.1) = false := by rfl)
    (ht : eval (.Call (.Attribute (.Name y yp) m apos) (e :: es) [] pos) X.env = (do
      let ov ← eval (.Name y yp) X.env
      standAt apos.atName
      let (f, first) ← holding [ov] (getMethod ov m pl)
      callWith pos f first (backTo pos (starEach (e :: es) X.env)) (backToKw pos (keywordEach [] X.env))) := by rfl) :
    SX X E C (.Call (.Attribute (.Name y yp) m apos) (e :: es) [] pos) (callMt Cl m fn j a) := by
  obtain ⟨ta, pa, sa⟩ := ha
  obtain ⟨f, fd, c, hm, F, hb⟩ := G.p
  exact ⟨_, pe_meth (pe_var hN hv hd hcd) c hm F (hr.mono hk) hb .nil hx pa he hpl ht, sim_callMt hl.l sa⟩
theorem sx_callMt0 {Cl : Addr} {k kk j : Nat} {ps : List Str} {fn : Addr → List (Str × PD) → List PD → OB} {m y : Str} {yp apos pos : Pos} {pl : Sem Bool} (G : CalMt X.prog X.w X.K X.mg X.base C Cl m k 0 ps fn) (hr : Room kk X.A) (hk : k ≤ kk) (hx : Passes (L2N.CX X.prog X.w) X E)
    (hN : X.N[j]? = some y := by rfl) (hv : Vis X.env.scope y := by first | exact Or.inl rfl | exact Or.inr (Or.inl rfl) | exact Or.inr (Or.inr rfl)) (hd : (y == ("__debug__" : Str)) = false := by decide) (hcd : (y == ("__classdict__" : Str)) = false := by decide)
    (ht : eval (.Call (.Attribute (.Name y yp) m apos) [] [] pos) X.env = (do
      let ov ← eval (.Name y yp) X.env
      standAt apos.atName
      let (f, first) ← holding [ov] (getMethod ov m pl)
      callWith pos f first (backTo pos (starEach [] X.env)) (backToKw pos (keywordEach [] X.env))) := by rfl) :
    SX X E C (.Call (.Attribute (.Name y yp) m apos) [] [] pos) (callMt Cl m fn j nilA) := by
  obtain ⟨f, fd, c, hm, F, hb⟩ := G.p
  obtain ⟨ta, pa, sa⟩ := (sa_nil : SA X E C [] nilA)
  exact ⟨_, pe_meth0 (pe_var hN hv hd hcd) c hm F (hr.mono hk) hb .nil hx (ht := ht), sim_callMt (fun ρ rs e => by cases e; rfl) (fun G0 H0 G H σ ρ Q I h => h [] G H (Grow.refl I.s) .nil)⟩
/-- x = Class(..), then the rest -/
def dropV : SO → SO
  | .rv r _ => .rt r
  | .ev c _ => .ex c
  | o => o
theorem SOk.dropV {K : PySem.W.Frag} {E : XK} {C : CM} {G0 H0 G : Hp} {D : Ends} {o : SO} (h : SOk K E C G0 H0 G D (Z.dropV o)) : SOk K E C G0 H0 G D o := by
  cases o with
  | rv r ρ => exact fun v σ G' H' s I hr => h v G' H' I.b hr
  | ev c ρ => exact fun σ G' H' s I => h G' H' I.b
  | nx ρ => exact h
  | rt r => exact h
  | ex c => exact h
  | bk ρ => exact h
  | ct ρ => exact h
  | st => exact h
def mkO (Cl : Addr) (i : Nat) (f : Addr → List (Str × PD) → List PD → OB) (a : AD) (d : SD) (p : Addr) : SD := fun ρ => match noX (a ρ) with
  | .ok rs => if rs.all R.isIm then match f p [] (rs.map R.dat) with
    | .ok (.im .none) fs => dropV (d (ρ.set i (.ob p Cl fs)))
    | _ => .st
    else .st
  | _ => .st
open Classical in
noncomputable def mkB (Cl : Addr) (i : Nat) (f : Addr → List (Str × PD) → List PD → OB) (a : AD) (d : SD) : SD := fun ρ => if ∀ p : Addr, mkO Cl i f a d p ρ = mkO Cl i f a d 0 ρ then mkO Cl i f a d 0 ρ else .st
theorem EnvR.newOb {K : PySem.W.Frag} {G0 H0 G H : Hp} {σ : L2.St} {ρ : Env} {p Cl dx : Addr} {i : Nat} {fs : List (Str × PD)} {vs : List (Str × V)} (I : EnvR K G0 H0 G H σ ρ [p]) (e2 : H p = some (.ins Cl dx vs)) (e3 : FldOk K G fs vs) : EnvOk K G0 H0 G H (σ.set i (some (.ref p))) (ρ.set i (.ob p Cl fs)) := by
  obtain ⟨len, b, w, hw, hF⟩ := I
  obtain ⟨n1, n2, n3⟩ := hF p List.mem_cons_self
  refine ⟨by simp [len], b, fun a => if a = p then some i else w a, fun j e he => ?_⟩
  by_cases c : i = j
  · subst c
    by_cases hl : i < ρ.length
    · rw [List.getElem?_set_self hl] at he
      cases he
      rw [getD_set_self (by omega)]
      exact ⟨rfl, if_pos rfl, ⟨n2, n3⟩, dx, vs, e2, e3⟩
    · rw [List.getElem?_eq_none (by simp; omega)] at he
      cases he
  · rw [List.getElem?_set_ne c] at he
    rw [getD_set_ne c]
    refine (hw j e he).relabel fun a ha => ?_
    show (if a = p then some i else w a) = some j
    rw [if_neg]
    · exact ha
    · intro q
      subst q
      rw [n1] at ha
      cases ha
theorem sb_mk {Cl : Addr} {k kk n : Nat} {ps : List Str} {fn : Addr → List (Str × PD) → List PD → OB} {cx x : Str} {e : Expr} {es : List Expr} {a : AD} {rest : List Stmt} {d : SD} {p pos' cpos pos : Pos} (i : Nat) (G : CalMk X.prog X.w X.K X.mg X.base C Cl cx k n ps fn) (hr : Room kk X.A) (hk : k + 1 ≤ kk) (hx : Passes (L2N.CX X.prog X.w) X E)
    (hl : ALen a n) (ha : SA X E C (e :: es) a) (hb : SB X E C rest d) (hNd : X.N.Nodup) (hloc : Loc X.env.scope x) (hi : X.N[i]? = some x := by rfl) (hf : X.fn x = true ∨ X.env.scope.names.lookup x = some .local := by first | exact .inl rfl | exact .inr rfl | assumption)
    (hg : Gl X cx := by rfl) (hdb : (cx == ("__debug__" : Str)) = false := by decide) (he : starEach (e :: es) X.env = (false, eval e X.env) :: starEach es X.env := by rfl) (hpl : (backTo cpos (starEach es X.env)).any (·.1) = false := by rfl)
    (hs : swapsWith (.Call (.Name cx p) (e :: es) [] cpos) (some (.Name x pos')) pos.line X.env = pure false := by rfl) :
    SB X E C (.Assign [.Name x pos'] (.Call (.Name cx p) (e :: es) [] cpos) pos :: rest) (mkB Cl i fn a d) := by
  obtain ⟨f, fd, M, F, hm, hbd⟩ := G.p
  obtain ⟨ta, pa, sa⟩ := ha
  obtain ⟨tb, pb, sb⟩ := hb
  refine ⟨_, pss_cons (ps_asg (pe_make M F (hr.mono hk) hg hm hbd .nil hx pa hdb he hpl) (pg_name hNd hi hloc hf) hs) pb, fun G0 H0 G H σ ρ D I h => ?_⟩
  unfold mkB at h
  by_cases hind : ∀ p : Addr, mkO Cl i fn a d p ρ = mkO Cl i fn a d 0 ρ
  rotate_left
  · rw [if_neg hind] at h; exact h.elim
  rw [if_pos hind] at h
  refine sa G0 H0 G H σ ρ _ I ?_
  cases ea : a ρ with
  | ex c => unfold mkO at h; rw [ea] at h; exact h.elim
  | st => unfold mkO at h; rw [ea] at h; exact h.elim
  | ok rs =>
    intro vs G1 H1 g1 k1
    intro y dx hy hd hne
    rw [← hind y] at h
    unfold mkO at h
    rw [ea] at h
    simp only [noX] at h
    by_cases c : rs.all R.isIm = true
    rotate_left
    · rw [if_neg c] at h; exact h.elim
    rw [if_pos c] at h
    rw [List.append_nil]
    have I1 := I.grow g1
    have hs1 : Same H1 (less (upd (upd H1 dx (.own y)) y (.ins Cl dx [])) [y]) := fun b o e => by
      have b1 : b ≠ y := ne_of_none e hy
      have b2 : b ≠ dx := ne_of_none e hd
      rw [less_out (by simpa using b1), upd_ne b1, upd_ne b2]
      exact e
    have hs2 : Same H1 (upd (upd H1 dx (.own y)) y (.ins Cl dx [])) := hs1.trans less_same
    have gy : G1 y = none := I1.s.free hy
    refine ⟨G1, y, dx, [], [], vs, rs.map R.dat, rfl, I1.s.trans hs2, upd_same, gy, .nil, (k1.ims (ims_all c)), by rw [List.length_map]; exact hl.l _ _ ea, ?_⟩
    cases ef : fn y [] (rs.map R.dat) with
    | ex c fs => rw [ef] at h; exact h.elim
    | st => rw [ef] at h; exact h.elim
    | ok r fs =>
      rw [ef] at h
      split at h
      · rename_i fs2 e2
        cases e2
        intro v G' H' g gp hp hr
        obtain ⟨dx', ws', h1, h2⟩ := hp
        have hr : Rp _ G' v .none := hr
        cases hr
        refine ⟨rfl, ?_⟩
        have g0 : Grow G1 H1 G1 (less (upd (upd H1 dx (.own y)) y (.ins Cl dx [])) [y]) := ⟨Same.refl _, hs1, I1.s.trans hs1, fun _ _ _ _ h => h⟩
        have J := I1.fresh (g0.trans g) (F := [y]) fun a ha => by
          rw [List.mem_singleton] at ha
          subst ha
          exact ⟨hy, gp⟩
        exact sb G0 H0 G' H' _ _ D (J.newOb h1 h2) (SOk.up (SOk.dropV h) (g1.g.trans g.g))
      · exact h.elim
/-- x.clear(), x not read again -/
def clrD (i : Nat) : SD := fun ρ => match ρ[i]? with
  | some (.ow _ _) => .nx (ρ.set i .no)
  | _ => .st
theorem ss_clr {x : Str} {xp apos cpos pos : Pos} (i : Nat) (hNi : X.N[i]? = some x := by rfl) (hv : Vis X.env.scope x := by first | exact Or.inl rfl | exact Or.inr (Or.inl rfl) | exact Or.inr (Or.inr rfl)) (hd : (x == ("__debug__" : Str)) = false := by decide) (hcd : (x == ("__classdict__" : Str)) = false := by decide)
    (hp : ∀ to, PE X (.Name x xp) to → PE X (.Call (.Attribute (.Name x xp) "clear" apos) [] [] cpos) (tBM0 X.K "list" rClear to)) (hs : swapsWith (.Call (.Attribute (.Name x xp) "clear" apos) [] [] cpos) none pos.line X.env = pure false := by rfl) :
    SS X E C (.Expr (.Call (.Attribute (.Name x xp) "clear" apos) [] [] cpos) pos) (clrD i) := by
  refine ⟨_, ps_expr (hp _ (pe_var hNi hv hd hcd)) hs, fun G0 H0 G H σ ρ D I h => ?_⟩
  unfold clrD at h
  split at h
  · rename_i n t e
    obtain ⟨y, c1, c2, c3, c4, J⟩ := I.drop e
    obtain ⟨p, kids⟩ := y
    have hl : H p = some (.lst (kids.map (ATy.val n))) := c3.1
    have J' : EnvR X.K G0 H0 G H σ (ρ.set i .no) (p :: kids.flatMap (ATy.adr n)) := J
    refine ⟨_, getD_some c1, .inl ⟨rfl, _, SqL.of hl⟩, p, _, rfl, rfl, hl, ?_⟩
    exact h σ G _ (Same.refl _) (J'.write (o := .lst [])).ok
  · exact h.elim
end
/-! ### for x, y in zip(a, b) -/
theorem zipL_get {ds es : List PD} {i : Nat} {d : PD} (h : (zipL ds es)[i]? = some d) : ∃ x y, ds[i]? = some x ∧ es[i]? = some y ∧ d = .tuple [x, y] := by
  unfold zipL at h
  rw [List.getElem?_map] at h
  cases e : (ds.zip es)[i]? with
  | none => rw [e] at h; cases h
  | some p =>
    rw [e] at h
    rw [List.getElem?_zip_eq_some] at e
    exact ⟨p.1, p.2, e.1, e.2, (Option.some.inj h).symm⟩
theorem walks_zip {K : PySem.W.Frag} {G : Hp} {a b : Addr} {vs us : List V} {ds es : List PD} {S : Hp → Prop} (hS : ∀ H, S H → SqL K H a vs ∧ SqL K H b us ∧ Same G H) (r : RpA K G vs ds) (r2 : RpA K G us es) : Walks K (Itz K a b) G (zipL ds es) S := by
  intro i H hs
  obtain ⟨h1, h2, s⟩ := hS H hs
  have hl : (zipL ds es).length = min ds.length es.length := by simp [zipL]
  refine ⟨fun hi => ⟨vs, us, h1, h2, by rw [r.length, r2.length]; rw [hl] at hi; omega⟩, fun d hd => ?_⟩
  obtain ⟨x, y, hx, hy, rfl⟩ := zipL_get hd
  obtain ⟨v, hv, rv⟩ := r.getD hx
  obtain ⟨u, hu, ru⟩ := r2.getD hy
  refine ⟨⟨vs, us, v, u, h1, h2, hv, hu⟩, fun v' H' hz => ?_⟩
  obtain ⟨T, v2, u2, rfl, hT, rfl, f, g⟩ := hz
  have e : vs[i]? = some v2 := f vs h1
  have e2 : us[i]? = some u2 := g us h2
  rw [hv] at e
  rw [hu] at e2
  cases e
  cases e2
  exact fun G' s1 s2 => ⟨_, Grow.newK s2 hT, .tup upd_same (.cons ((rv.up s1).up (same_upd (s2.free hT))) (.cons ((ru.up s1).up (same_upd (s2.free hT))) .nil))⟩
section
variable {X : Cx} {E : XK} {C : CM}
def zpD (a b : ED) : LD := fun ρ => (a ρ).bind fun r1 => (b ρ).bind fun r2 => match r1.fz, r2.fz with
  | .im (.list ds), .im (.list es) => .ok (zipL ds es)
  | _, _ => .st
theorem si_zip {e e2 : Expr} {a b : ED} {p pos tpos : Pos} {elts : List Expr} {kk : Nat} (hg : Gl X "zip") (hm : X.mg "zip" = none) (ha : SE X E C e a) (hb : SE X E C e2 b) (hs : starEach [e, e2] X.env = (false, eval e X.env) :: starEach [e2] X.env := by rfl) (hs1 : starEach [e2] X.env = (false, eval e2 X.env) :: starEach [] X.env := by rfl) (hpl : (backTo pos (starEach [e2] X.env)).any (·.1) = false := by rfl) : SI X E C (.Tuple elts kk tpos) (.Call (.Name "zip" p) [e, e2] [] pos) (zpD a b) := by
  obtain ⟨ta, pa, sa⟩ := ha
  obtain ⟨tb, pb, sb⟩ := hb
  refine ⟨_, pi_zip hg hm (pa_cons pa (pa_cons pb pa_nil hs1) hs) hs hpl, fun G0 H0 G H σ ρ Q I h => ?_⟩
  have h' : ItOk X.K E C (fun G' _ H2 => Same G' H2) Q G H (zpD a b ρ) := h
  unfold zpD at h'
  refine sa.useF (P := ItOk X.K E C (fun G' _ H2 => Same G' H2) Q) famI I h' fun r1 x G1 H1 e1 g1 I1 k1 h1 => ?_
  refine sb.useF (P := ItOk X.K E C (fun G' _ H2 => Same G' H2) Q) famI I1 h1 fun r2 y G2 H2 e2 g2 I2 k2 h2 => ?_
  have k1' := k1.grow g2
  split at h2
  · rename_i ds es q1 q2
    rw [q1] at k1'
    rw [q2] at k2
    have k1'' : Rp _ G2 x (.list ds) := k1'
    have k2' : Rp _ G2 y (.list es) := k2
    cases k1'' with
    | lst t1 t2 =>
      cases k2' with
      | lst u1 u2 => exact ⟨_, _, _, _, rfl, SqL.of (I2.s _ _ t1), SqL.of (I2.s _ _ u1), h2 _ G2 H2 (Grow.refl I2.s) (walks_zip (fun H hs => ⟨SqL.of (hs _ _ t1), SqL.of (hs _ _ u1), hs⟩) t2 u2)⟩
  · exact h2.elim
end
end Z

/-! ## ZV -/
set_option Elab.async false
set_option linter.all false
set_option maxRecDepth 100000
set_option maxHeartbeats 2000000
namespace Z
open PySem PySem.Spec PyProof.Rows L2
section
variable {X : Cx} {E : XK} {C : CM}
/-! ### a.split(b) -/
def splitD (a b : ED) : ED := fun ρ => (a ρ).bind fun r1 => match r1.dat with
  | .str x => (b ρ).bind fun r2 => match r2.dat with
    | .str y => if (y.length == 0) = false ∧ x.length + 2 ≤ 100000 then .ok (.fr 0 ((Txt.split x y).map PyData.str)) else .st
    | _ => .st
  | _ => .st
theorem rpA_strs {K : PySem.W.Frag} {G : Hp} : ∀ ns : List Str, RpA K G (ns.map V.str) (ns.map PyData.str)
  | [] => .nil
  | n :: ns => .cons (.str n) (rpA_strs ns)
theorem se_split {o e : Expr} {a b : ED} {apos pos : Pos} (ho : SE X E C o a) (he : SE X E C e b) (hs : starEach [e] X.env = [(false, eval e X.env)] := by rfl) (hbase : attributeBase o "split" X.env (eval o X.env) = eval o X.env := by rfl)
    (hline : (apos.endLine == pos.line) = true := by rfl) : SE X E C (.Call (.Attribute o "split" apos) [e] [] pos) (splitD a b) := by
  obtain ⟨ta, pa, sa⟩ := ho
  obtain ⟨tb, pb, sb⟩ := he
  refine ⟨_, pe_split pa pb hs hbase hline, ?_⟩
  intro G0 H0 G H σ ρ Q I h
  unfold splitD at h
  refine sa.use famO I h fun r1 x G1 H1 e1 g1 I1 k1 h1 => ?_
  have k := k1.rp I1.s
  split at h1
  · rename_i s q
    rw [q] at k
    cases k
    refine ⟨⟨s, rfl⟩, ?_⟩
    refine sb.use famO I1 h1 fun r2 y G2 H2 e2 g2 I2 k2 h2 => ?_
    have k' := k2.rp I2.s
    split at h2
    · rename_i s2 q2
      rw [q2] at k'
      cases k'
      split at h2
      · rename_i c
        refine ⟨s, s2, rfl, rfl, c.1, le_line c.2, fun p hp => h2 _ G2 _ (Grow.new I2.s hp) (fresh_list (rpA_strs _) hp I2.s)⟩
      · exact h2.elim
    · exact h2.elim
  · exact h1.elim
/-! ### the signs of a text, walked -/
def signs (z : Str) : List PD := z.cps.toList.map fun c => PyData.str ⟨#[c]⟩
def itS (e : ED) : LD := fun ρ => (e ρ).bind fun r => match r.dat with
  | .str z => .ok (signs z)
  | _ => .st
theorem walks_str {K : PySem.W.Frag} {G : Hp} {z : Str} {S : Hp → Prop} : Walks K (Its z) G (signs z) S := by
  intro i H hs
  have hl : (signs z).length = z.cps.size := by simp [signs]
  refine ⟨fun hi => by rw [hl] at hi; exact hi, fun d hd => ?_⟩
  unfold signs at hd
  rw [List.getElem?_map] at hd
  obtain ⟨c, hc, rfl⟩ := Option.map_eq_some_iff.mp hd
  have hc' : z.cps[i]? = some c := by simpa using hc
  refine ⟨(Array.getElem?_eq_some_iff.mp hc').1, fun v H' hy => ?_⟩
  obtain ⟨rfl, c2, e2, rfl⟩ := hy
  rw [hc'] at e2
  cases e2
  exact fun G' s1 s2 => ⟨G', Grow.refl s2, .str _⟩
theorem sj_str {tg e : Expr} {d : ED} (he : SE X E C e d) : SJ X E C tg e (itS d) := by
  obtain ⟨te, pe, se⟩ := he
  refine ⟨_, pi_str pe, fun G0 H0 G H σ ρ Q I h => ?_⟩
  refine se.use (P := ItOk X.K E C (fun _ H' H2 => Same H' H2) Q) famI I h fun r x G1 H1 e1 g1 I1 k1 h1 => ?_
  have k := k1.rp I1.s
  split at h1
  · rename_i z q
    rw [q] at k
    cases k
    exact ⟨z, rfl, h1 _ G1 H1 (Grow.refl I1.s) walks_str⟩
  · exact h1.elim
/-! ### a sign not in a text -/
def niS : PD → PD → Option PD := fun d e => match d with
  | .str a => match e with
    | .str z => match a.cps.toList with
      | [c] => some (.bool (!decide (c ∈ z.cps.toList)))
      | _ => none
    | _ => none
  | _ => none
theorem lk_niS {K : PySem.W.Frag} : Lk2 K (fun x y H Q => ∃ (c : Nat) (z : Str), x = .str ⟨#[c]⟩ ∧ y = .str z ∧ Q (.bl (!decide (c ∈ z.cps.toList))) H) niS := by
  intro H x y d e z Q hx hy hf
  unfold niS at hf
  split at hf
  · rename_i a
    split at hf
    · rename_i zz
      split at hf
      · rename_i c q
        cases hf
        cases hx; cases hy
        have ea : a = ⟨#[c]⟩ := TL.ext_tl q
        exact ⟨_, rfl, fun q => ⟨c, _, by rw [ea], rfl, q⟩⟩
      · cases hf
    · cases hf
  · cases hf
/-! ### int(text) -/
def intSF : List PD → Option PD
  | [.str a] => if a.length ≤ 640 then (PySem.intText? a).map .int else none
  | _ => none
theorem lk_intS {K : PySem.W.Frag} : LkC K (fun xs H Q => ∃ a n, xs = [.str a] ∧ PySem.intText? a = some n ∧ a.length ≤ 640 ∧ Q (.int n) H) intSF := by
  intro H xs ds z Q h e
  unfold intSF at e
  split at e
  · split at e
    · rename_i a c
      obtain ⟨n, e1, rfl⟩ := Option.map_eq_some_iff.mp e
      obtain ⟨x, rfl, r1⟩ := rpA_one h
      cases r1
      exact ⟨_, rfl, fun q => ⟨_, n, rfl, e1, c, q⟩⟩
    · cases e
  · cases e
/-! ### a part of a text -/
def slSD (a : ED) (l u : OD) : ED := fun ρ => (a ρ).bind fun r => (l ρ).bind fun lo => (u ρ).bind fun hi => match r.dat with
  | .str z => if z.length ≤ 100000 then .ok (.im (.str (cutS z lo hi))) else .st
  | _ => .st
theorem se_slS {e : Expr} {lo hi : Option Expr} {a : ED} {l u : OD} {p2 pos : Pos} (ha : SE X E C e a) (hl : SOp X E C lo l) (hu : SOp X E C hi u) : SE X E C (.Subscript e (.Slice lo hi none p2) pos) (slSD a l u) := by
  obtain ⟨ta, pa, sa⟩ := ha
  obtain ⟨tl, pl, sl⟩ := hl
  obtain ⟨tu, pu, su⟩ := hu
  refine ⟨_, pe_slice sl_str pa pl pu, ?_⟩
  intro G0 H0 G H σ ρ Q I h
  refine sa.use famO I h fun r1 x G1 H1 e1 g1 I1 k1 h1 => ?_
  have k := k1.rp I1.s
  refine sl G0 H0 G1 H1 σ ρ _ I1 ?_
  cases el : l ρ with
  | st => rw [el] at h1; exact h1
  | ex c => rw [el] at h1; exact h1
  | ok o1 =>
    rw [el] at h1
    intro G2 H2 g2
    have h2 := OOk.up (show OOk X.K E C G1 H1 Q ((u ρ).bind fun hi => match r1.dat with
      | .str z => if z.length ≤ 100000 then .ok (.im (.str (cutS z o1 hi))) else .st
      | _ => .st) from h1) g2
    have I2 := I1.grow g2
    refine su G0 H0 G2 H2 σ ρ _ I2 ?_
    cases eu : u ρ with
    | st => rw [eu] at h2; exact h2
    | ex c => rw [eu] at h2; exact h2
    | ok o2 =>
      rw [eu] at h2
      intro G3 H3 g3
      have h3 := OOk.up (show OOk X.K E C G2 H2 Q (match r1.dat with
        | .str z => if z.length ≤ 100000 then .ok (.im (.str (cutS z o1 o2))) else .st
        | _ => .st) from h2) g3
      split at h3
      · rename_i z q
        rw [q] at k
        cases k
        split at h3
        · rename_i c
          exact ⟨z, rfl, le_line c, h3 _ G3 H3 (Grow.refl (I2.grow g3).s) (.str _)⟩
        · exact h3.elim
      · exact h3.elim
end
end Z

/-! ## ZW -/
set_option Elab.async false
set_option linter.all false
set_option maxRecDepth 100000
set_option maxHeartbeats 2000000
namespace Z
open PySem PySem.Spec PyProof.Rows L2
/-! ### a comprehension out of which a callee's exception goes -/
abbrev blkE (X : Cx) (s : Shared) (H : Hp) (scope : Scope) (ce : PySem.Env) (fp : List Addr) (E : XK) : Cx :=
  (X.blk s H scope ce fp).wish fun u s' => ∃ pins σ H' s2, Inv (X.blk s H scope ce fp) pins σ H' s2 ∧ L2N.CX X.prog X.w X.stack H' s2 E u s'
theorem not_held {B B' : Heap} {l l' : List PySem.Env} {a L : Addr} {Z Z' : Obj → Prop} {h : Heap} (f : HandSPX.FlyingZ B l a Z h) (g : HandSPX.HeldZ B' l' a Z' L h) : False := by
  obtain ⟨_, _, _, oe, vs, T, oT, ts, e1, _, d1, v1, _, _, e2, d2, v2⟩ := f
  obtain ⟨_, _, _, oe', vs', T', oT', ts', e1', _, d1', v1', _, _, e2', d2', v2'⟩ := g
  rw [e1] at e1'; cases e1'
  rw [d1] at d1'; cases d1'
  rw [v1] at v1'; cases v1'
  rw [e2] at e2'; cases e2'
  rw [d2] at d2'; cases d2'
  rw [v2] at v2'
  simp [rawInt] at v2'
theorem not_new {B : Heap} {l : List PySem.Env} {a : Addr} {Z : Obj → Prop} {h : Heap} (f : HandSPX.FlyingZ B l a Z h) {oe : Obj} {vs : Array Value} (e : h.get? a = some oe) (d : oe.data = .fields vs) (v : vs[1]? = some .none) : False := by
  obtain ⟨_, _, _, oe', vs', T, oT, ts, e1, _, d1, v1, _⟩ := f
  rw [e] at e1; cases e1
  rw [d] at d1; cases d1
  rw [v] at v1; cases v1
/-- what flies is in no other way in the sky -/
theorem sky_fly {B B' : Heap} {l l' : List PySem.Env} {a L : Addr} {Z Z' : Obj → Prop} {h : Heap} (f : HandSPX.FlyingZ B' l' a Z' h) (x : Sky B l a Z L h) : HandSPX.FlyingZ B l a Z h := by
  rcases x with ⟨_, _, _, oe, vs, e, _, d, v⟩ | x | x
  · exact (not_new f e d v).elim
  · exact x
  · exact (not_held f x).elim
theorem funFrames_but {h h' B B' : Heap} {Cl : Addr} (k : ∀ b, b ≠ Cl → h'.get? b = h.get? b) (kb : ∀ b, B.get? b = none → B'.get? b = none) : ∀ {l : List PySem.Env}, Cl ∉ frs l → h.FunFrames B l → h'.FunFrames B' l
  | [], _, _ => trivial
  | env :: l, hC, hl => by
    obtain ⟨hk, ⟨L, o, hf, hn, ho, hd⟩, hr⟩ := hl
    have hL : L ≠ Cl := fun z => hC (List.mem_filterMap.mpr ⟨env, List.mem_cons_self, by rw [hf, z]⟩)
    refine ⟨hk, ⟨L, o, hf, kb _ hn, by rw [k L hL]; exact ho, hd⟩, funFrames_but k kb (fun q => ?_) hr⟩
    obtain ⟨e, he, q2⟩ := List.mem_filterMap.mp q
    exact hC (List.mem_filterMap.mpr ⟨e, List.mem_cons_of_mem _ he, q2⟩)
theorem lcR_core {X : Cx} {E : XK} {pins : List (Addr × Obj)} {s : Shared} {σ : L2.St} {H : Hp} {Q : VK} {elt tg iter : Expr} {ifs : List Expr} {scope : Scope} {own : List (Str × Nat)} {pos ps2 : Pos} {wi : TI} {g : TG} {tt : TT} {te : TE} {use : Option (Value → Sem Unit)} {Qf : Value → Shared → Prop}
    (hc : X.calm = true) (hN : X.N.Nodup) (hsk : X.stack = X.env :: X.outer) (hfl : X.env.frame = some X.env.locals) (tk : L2N.Takes X fun cls d _ H => E cls d H) (I : Inv X pins σ H s)
    (hi : PI X tg iter wi) (ok : BlkOk X.N X.env.scope scope own)
    (hg : ∀ (s : Shared) (H : Hp) (Cd : Addr) (cl : List (Str × Addr)) (fp : List Addr), PG (X.blk s H scope (compEnvC scope cl Cd X.env) fp) tg g)
    (ht : ∀ (s : Shared) (H : Hp) (Cd : Addr) (cl : List (Str × Addr)) (fp : List Addr), PTs (X.blk s H scope (compEnvC scope cl Cd X.env) fp) ifs tt)
    (he : ∀ (s : Shared) (H : Hp) (Cd : Addr) (cl : List (Str × Addr)) (fp : List Addr), PE (blkE X s H scope (compEnvC scope cl Cd X.env) fp E) elt te) (hs : ∀ x, foldedSetIterable iter X.env x = pure x)
    (h : tLc wi g tt te (own.map (·.2)) σ H Q)
    (hend : ∀ (D : Addr) (ce : PySem.Env) (s' : Shared) (m : Str → Option Value) (H' : Hp), Inv X pins σ H' s' → Q (.ref D) H' → s'.heap.Ns ce.locals m → FpOk X pins H' ce.locals → compEnds (model X.prog X.w) X.A X.xe use Qf (.ref D) ce (.ok .next) s') :
    wpAny (model X.prog X.w) X.A (comprehension (.ListComp elt [⟨tg, iter, ifs, 0⟩] scope pos) scope X.env ps2 (newList []) false (eval iter X.env) use) Qf X.xe s := by
  have cel : ∀ y ∈ scope.names, y.2 = .free → ∃ c, X.env.cells.lookup y.1 = some c := fun y hy e => I.ok.has _ (ok.free y hy e)
  refine comprehension_at (use := use) rfl hs (closure_ok cel) ok.kind (fun y hy e => (ok.uniq y hy).trans (congrArg some e)) (thn (hi.run pins s σ H _ I h) fun xv s1 hx => thn hx fun itv s2 h2 => ?_)
  obtain ⟨it, fp, tn, J, H2, e, I2, T, st2, f2, q⟩ := h2
  subst e
  refine wpAny_newObj_type (newEnv_comp ?_) (by show 0 ≤ sizeLine; decide)
  generalize hDe : s2.heap.objs.size = D
  have nD : H2 D = none := I2.hok.fresh (Nat.le_of_eq hDe)
  obtain ⟨W, ⟨m0, w0⟩, turn⟩ := q D nD
  generalize hs3 : ({ s2 with heap := s2.heap.push { cls := .type "list", data := .seq ([] : List Value).toArray } } : Shared) = s3
  have up3 : ∀ b o, s2.heap.get? b = some o → s3.heap.get? b = some o := fun b o e => by rw [← hs3]; exact Heap.get?_push_of_some _ e
  have I3 : Inv X pins σ (upd H2 D (.lst [])) s3 := by
    rw [← hs3]
    refine I2.laid (t' := s2.toks) (fun b o e => Heap.get?_push_of_some _ e) (Nat.le_of_eq hDe) ⟨Nat.zero_le _, [], 0, .nil, ?_⟩
    rw [← hDe]
    exact Heap.get?_push_size _ rfl
  have z3 : s2.heap.objs.size < s3.heap.objs.size := by rw [← hs3]; show _ < (Heap.push _ _).objs.size; rw [Heap.size_push]; exact Nat.lt_succ_self _
  have f3 : ∀ b ∈ fp, FpOk X pins (upd H2 D (.lst [])) b ∧ b < s3.heap.objs.size := fun b hb => by
    obtain ⟨o, e, _⟩ := T.obj _ _ st2 b hb
    have hlt := Heap.lt_size e
    exact ⟨⟨(upd_ne (by rw [← hDe]; exact Nat.ne_of_lt hlt)).trans (f2 b hb).1, (f2 b hb).2⟩, Nat.lt_trans hlt z3⟩
  have st3 : tn 0 s3.heap := T.keep _ _ _ st2 fun b _ o e => up3 b o e
  have I4 := block_start I3 ok hN f3
  have pg := hg s3 (upd H2 D (.lst [])) s3.heap.objs.size (cellsFrom (s3.heap.objs.size + 1) scope.names (cloFrom X.env.cells scope.names [])) fp
  have pt := ht s3 (upd H2 D (.lst [])) s3.heap.objs.size (cellsFrom (s3.heap.objs.size + 1) scope.names (cloFrom X.env.cells scope.names [])) fp
  have pe := he s3 (upd H2 D (.lst [])) s3.heap.objs.size (cellsFrom (s3.heap.objs.size + 1) scope.names (cloFrom X.env.cells scope.names [])) fp
  have nfp : ∀ b ∈ fp, (upd H2 D (.lst [])) b = none := fun b hb => (f3 b hb).1.1
  show codeAny _ _ (.compStart (.ListComp elt [⟨tg, iter, ifs, 0⟩] scope pos) 0 (.ref it) (.ref D) (compEnvC scope (cellsFrom (s3.heap.objs.size + 1) scope.names (cloFrom X.env.cells scope.names [])) s3.heap.objs.size X.env)) (compEnds (model X.prog X.w) X.A X.xe use Qf (.ref D) (compEnvC scope (cellsFrom (s3.heap.objs.size + 1) scope.names (cloFrom X.env.cells scope.names [])) s3.heap.objs.size X.env)) { s3 with heap := pushCells (s3.heap.push { cls := .type "dict", data := .dict #[] }) scope.names }
  generalize hce : compEnvC scope (cellsFrom (s3.heap.objs.size + 1) scope.names (cloFrom X.env.cells scope.names [])) s3.heap.objs.size X.env = ce at I4 pg pt pe ⊢
  have cL : ce.locals = s3.heap.objs.size := by subst hce; rfl
  have cF : ce.frame = some X.env.locals := by subst hce; exact hfl
  generalize hH3 : upd H2 D (.lst []) = H3 at I3 I4 pg pt pe w0 nfp f3
  generalize hs4 : ({ s3 with heap := pushCells (s3.heap.push { cls := .type "dict", data := .dict #[] }) scope.names } : Shared) = s4 at I4 ⊢
  have st4 : tn 0 s4.heap := T.keep _ _ _ st3 fun b _ o e => by rw [← hs4]; exact pushCells_keeps _ _ _ _ (Heap.get?_push_of_some _ e)
  have fpo : ∀ {σ' : L2.St} {H' : Hp} {s' : Shared}, Inv (X.blk s3 H3 scope ce fp) [] σ' H' s' → (∀ b ∈ fp, H' b = none) → ∀ b ∈ fp, FpOk (X.blk s3 H3 scope ce fp) [] H' b := fun {σ' H' s'} I' hn b hb =>
    ⟨hn b hb, (I'.ok.exf b hb).1, I'.ok.exfs b hb, .inl hb, fun y c e => (I'.ok.exf b hb).2 y c e, fun p hp => nomatch (show p ∈ ([] : List (Addr × Obj)) ++ [] from hp)⟩
  -- the def's own state behind a state of the block
  have back : ∀ {pins' : List (Addr × Obj)} {σ' : L2.St} {H' : Hp} {s' : Shared}, Inv (X.blk s3 H3 scope ce fp) pins' σ' H' s' → Inv X pins σ H' s' := fun {pins' σ' H' s'} I' =>
    I3.call' (ch := fp) I'.os I'.base I'.hok I'.bare fun b hb => ⟨(f3 b hb).1.2.2.2.1, (f3 b hb).1.2.1, (f3 b hb).1.2.2.2.2.1, (f3 b hb).1.2.2.2.2.2⟩
  -- an exception that the element lets out
  have out : ∀ (u : Value) (s' : Shared), (∃ pins σ H' s2, Inv (X.blk s3 H3 scope ce fp) pins σ H' s2 ∧ L2N.CX X.prog X.w X.stack H' s2 E u s') → notedBy (model X.prog X.w) X.A ce (fun e s' => compEnds (model X.prog X.w) X.A X.xe use Qf (.ref D) ce (.error e) s') u s' := by
    rintro u s5 ⟨pins5, σ5, H5, s6, I6, c⟩
    have fl : ∃ a cls d B0, u = .ref a ∧ HandSPX.FlyingZ B0 X.stack a (L2N.Zn cls d) s5.heap := by
      obtain ⟨a, B0, _, cls, d, e, fl, _⟩ := c
      exact ⟨a, cls, d, B0, e, fl⟩
    obtain ⟨a0, cls0, d0, B0, e0, fl0⟩ := fl
    obtain ⟨a, B, sI, pins7, σ7, H7, cls, d, rfl, J7, nb, up, sky, na, os, ag, w⟩ := L2N.XE.of_call (X := X.blk s3 H3 scope ce fp) (W := fun cls d _ H => E cls d H) I6 (fun cls d H' h => h) c
    obtain rfl : a = a0 := Value.ref.inj e0
    have fly : HandSPX.FlyingZ B X.stack a (L2N.Zn cls d) s5.heap := sky_fly fl0 sky
    have eN : noteFrame (.ref a) ce = noteFrame (.ref a) X.env := by
      unfold PySem.noteFrame PySem.frameOf
      rw [cF, hfl]
    have key : wpAny (model X.prog X.w) X.A (noteFrame (.ref a) X.env) (fun _ s'' => CompFails (model X.prog X.w) X.A X.xe ce (.ref a) s'') (fun e s' => CompFails (model X.prog X.w) X.A X.xe ce e s') s5 → wpAny (model X.prog X.w) X.A (noteFrame (.ref a) ce) (fun _ s'' => compEnds (model X.prog X.w) X.A X.xe use Qf (.ref D) ce (.error (.ref a)) s'') (fun e s' => compEnds (model X.prog X.w) X.A X.xe use Qf (.ref D) ce (.error e) s') s5 := fun z => by
      rw [eN]
      refine wpAny_mono z (fun _ s2 z2 => ?_) (fun e s2 z2 => ?_) <;> cases use <;> exact z2
    refine key ?_
    refine PXN.looks_onZ (base := B) (outer := X.outer) L2N.Zn.steady (by rw [I.ok.frames, hsk]) hfl (by rw [← hsk]; exact fly) fun h8 hh8 up8 => ?_
    obtain ⟨m, hn, _⟩ := J7.loc
    refine ⟨m, up8.ns (up.ns hn), fun h9 m9 hn9 sb => ?_⟩
    have J := back J7
    have nC : H7 ce.locals = none := J7.free
    obtain ⟨g0, g1, g2, g3, g4, g5⟩ : FpOk X pins H7 ce.locals := by rw [cL] at nC ⊢; exact I3.fpOk (Nat.le_refl _) nC
    have nfr : ce.locals ∉ frs X.stack := fun z => (List.mem_cons.mp (I.stkSub _ z)).elim g1 g2
    have hC8 := up8.ns (up.ns hn)
    have at9 : ∀ b, b ≠ ce.locals → h9.get? b = h8.get? b := fun b hb => sb.2 b hb
    have hh9 : HandSPX.HeldZ (PySem.W.hideAll B [ce.locals]) (X.env :: X.outer) a (L2N.Zn cls d) X.env.locals h9 := by
      obtain ⟨k1, k2, k3, oe, vs, T8, oT, ts, e1, z1, d1, v1, n1, t1, e2, d2, v2⟩ := hh8
      have nf : ∀ (b : Addr) (o : Obj) (us : Array Value), h8.get? b = some o → o.data = .fields us → b ≠ ce.locals := fun b o us e d z => by
        obtain ⟨o2, es, ep, e2, d2, _⟩ := hC8
        rw [← z] at e2
        rw [show ({ s5 with heap := h8 } : Shared).heap.get? b = h8.get? b from rfl, e] at e2
        cases e2
        rw [d] at d2
        cases d2
      have none_ : ∀ b, B.get? b = none → (PySem.W.hideAll B [ce.locals]).get? b = none := fun b hb => by
        cases q : (PySem.W.hideAll B [ce.locals]).get? b with
        | none => rfl
        | some o => rw [PySem.W.of_hideAll _ q] at hb; cases hb
      refine ⟨fun b o e => ?_, none_ _ k2, funFrames_but at9 none_ (by rw [← hsk]; exact nfr) k3, oe, vs, T8, oT, ts, ?_, z1, d1, v1, none_ _ n1, t1, ?_, d2, v2⟩
      · have hb : b ≠ ce.locals := fun z => by
          rw [z, PySem.W.hideAll_none _ List.mem_cons_self] at e
          cases e
        rw [at9 b hb]
        exact k1 b o (PySem.W.of_hideAll _ e)
      · rw [at9 a (nf a oe vs e1 d1)]; exact e1
      · rw [at9 T8 (nf T8 oT ts e2 d2)]; exact e2
    unfold PySem.passOn
    obtain ⟨_, _, _, oe, vs, T9, oT, ts, e1, z1, d1, v1, n1, t1, e2, d2, v2⟩ := id hh9
    refine wpAny_bind (wpAny_field e1 d1 v1 ?_)
    rw [if_neg (show ¬ ((Value.ref T9 == Value.none) = true) from by simp)]
    have fin9 : wpAny (model X.prog X.w) X.A (setFlight (.ref a) ce.frame) (fun _ s10 => wpAny (model X.prog X.w) X.A (throw (.ref a) : Sem Value) (fun _ _ => False) X.xe s10) X.xe { s5 with heap := h9 } := by
      rw [cF]
      refine HandSPX.setFlight_onZ hh9 fun h10 hh10 up10 => wpAny_throw (tk _ _ ?_)
      refine ⟨a, PySem.W.hideAll B [ce.locals], { sI with heap := PySem.W.hideAll sI.heap [ce.locals] }, pins, σ, H7, cls, d, rfl, ?_, fun b o e hb => ?_, fun b o e hf => ?_, .inr (.inr (by rw [hsk]; exact hh10)), na, os, ag, w⟩
      · exact J.turned (t' := sI.toks) (it := ce.locals) (fun b o hb e => PySem.W.hideAll_get _ e (by simpa using hb)) g0 g1 g3 g4 g5
      · have hb2 : b ≠ ce.locals := fun z => by
          rw [show ({ sI with heap := PySem.W.hideAll sI.heap [ce.locals] } : Shared).heap = PySem.W.hideAll sI.heap [ce.locals] from rfl, z, PySem.W.hideAll_none _ List.mem_cons_self] at e
          cases e
        exact PySem.W.hideAll_get _ (nb b o (PySem.W.of_hideAll _ e) hb) (by simpa using hb2)
      · have hb2 : b ≠ ce.locals := fun z => by
          rw [show ({ sI with heap := PySem.W.hideAll sI.heap [ce.locals] } : Shared).heap = PySem.W.hideAll sI.heap [ce.locals] from rfl, z, PySem.W.hideAll_none _ List.mem_cons_self] at e
          cases e
        obtain ⟨sl, q1⟩ := (up.trans up8) b o (PySem.W.of_hideAll _ e) hf
        obtain ⟨sl2, q2⟩ := up10 b { o with slots := sl } (by rw [show ({ s5 with heap := h9 } : Shared).heap = h9 from rfl, at9 b hb2]; exact q1) hf
        exact ⟨sl2, q2⟩
    first
      | exact wpAny_bind (wpAny_pure (wpAny_bind fin9))
      | exact wpAny_bind fin9
  have loop : codeAny (model X.prog X.w) X.A (.compLoop (.ListComp elt [⟨tg, iter, ifs, 0⟩] scope pos) 0 (.ref it) (.ref D) ce) (compEnds (model X.prog X.w) X.A X.xe use Qf (.ref D) ce) s4 := by
    refine compLoop_any (fun n s' => ∃ i H', Inv (X.blk s3 H3 scope ce fp) [] (wipe σ (own.map (·.2))) H' s' ∧ tn i s'.heap ∧ (∀ b ∈ fp, H' b = none) ∧ W i n H') ?_ m0 ⟨0, H3, I4, st4, nfp, w0⟩
    rintro n s5 ⟨i, H5, I5, st5, n5, w5⟩
    rcases turn i n H5 w5 with ⟨stop, qq⟩ | ⟨go, Nx, hNx, step⟩
    · refine thnF (T.done (X.blk s3 H3 scope ce fp) rfl rfl rfl hc i [] s5 _ H5 (fun _ _ => False) I5 (fpo I5 n5) st5 stop) fun r s6 ⟨hr, I6⟩ => ?_
      subst hr
      have I7 := back I6
      have nC : H5 s3.heap.objs.size = none := by
        have z := I6.free
        rw [show (X.blk s3 H3 scope ce fp).env.locals = s3.heap.objs.size from cL] at z
        exact z
      obtain ⟨m, hn, _⟩ := I6.loc
      exact hend D ce s6 m H5 I7 qq hn (by rw [cL]; exact I3.fpOk (Nat.le_refl _) nC)
    · refine thnF (T.item (X.blk s3 H3 scope ce fp) rfl rfl rfl hc i [] s5 _ H5 (fun _ _ => False) I5 (fpo I5 n5) st5 go) fun r s6 ⟨u, hr, h6⟩ => ?_
      subst hr
      refine thnF h6 fun _ s7 ⟨x, H7, I7, r7, y7, st7, n7⟩ => ?_
      have I7' := I7.pinned (fpo I7 n7) (T.obj _ _ st7)
      refine thnF (pg.run _ s7 _ H7 x u _ I7' r7 (step x H7 y7)) fun _ s8 ⟨σ8, H8, I8, hw8, q8⟩ => ?_
      refine thnF (pt.run _ s8 σ8 H8 _ I8 q8) fun b s9 ⟨H9, I9, q9⟩ => ?_
      have fin : ∀ {s' : Shared} {H' : Hp}, Inv (X.blk s3 H3 scope ce fp) ([] ++ pinsAt fp s7.heap) σ8 H' s' → Nx H' → ∃ m, m < n ∧ ∃ i H', Inv (X.blk s3 H3 scope ce fp) [] (wipe σ (own.map (·.2))) H' s' ∧ tn i s'.heap ∧ (∀ b ∈ fp, H' b = none) ∧ W i m H' := fun {s' H'} I' nx => by
        obtain ⟨m', hm, w'⟩ := hNx H' nx
        have kp : ∀ b ∈ fp, ∀ o, s7.heap.get? b = some o → s'.heap.get? b = some o ∧ H' b = none := fun b hb o e => by
          have z := I'.pin (b, o) (List.mem_append_right _ (List.mem_append_right _ (mem_pinsAt hb e)))
          exact ⟨z.1, z.2.1⟩
        refine ⟨m', hm, i + 1, H', (I'.unpinned (pins := [])).weak (by rw [← hw8, wipe_length]) (fun j v e => by rw [← hw8] at e; exact (wipe_some e).1), T.keep _ _ _ st7 fun b hb o e => (kp b hb o e).1, fun b hb => ?_, w'⟩
        obtain ⟨o, e, _⟩ := T.obj _ _ st7 b hb
        exact (kp b hb o e).2
      cases b with
      | false => exact fin I9 q9
      | true =>
        refine wpAny_mono (pe.run _ s9 σ8 H9 _ (I9.wish _) q9) (fun z s10 hz => ?_) out
        obtain ⟨yv, H10, I10, r10, acc, hD10, hz10, nx⟩ := hz
        exact app_ok (X := X.blk s3 H3 scope ce fp) I10.unwish hD10 hz10 r10 fun s11 I11 => fin I11 nx
  exact codeAny_compStart_list loop (T.self X.A 0 _ _ _ st4 loop)

section
variable {X : Cx} {E : XK} {elt tg iter : Expr} {ifs : List Expr} {scope : Scope} {own : List (Str × Nat)} {pos : Pos} {wi : TI} {g : TG} {tt : TT} {te : TE}
theorem pe_lcR (hc : X.calm = true) (hN : X.N.Nodup) (hsk : X.stack = X.env :: X.outer) (hfl : X.env.frame = some X.env.locals) (tk : L2N.Takes X fun cls d _ H => E cls d H) (hi : PI X tg iter wi) (ok : BlkOk X.N X.env.scope scope own)
    (hg : ∀ (s : Shared) (H : Hp) (Cd : Addr) (cl : List (Str × Addr)) (fp : List Addr), PG (X.blk s H scope (compEnvC scope cl Cd X.env) fp) tg g)
    (ht : ∀ (s : Shared) (H : Hp) (Cd : Addr) (cl : List (Str × Addr)) (fp : List Addr), PTs (X.blk s H scope (compEnvC scope cl Cd X.env) fp) ifs tt)
    (he : ∀ (s : Shared) (H : Hp) (Cd : Addr) (cl : List (Str × Addr)) (fp : List Addr), PE (blkE X s H scope (compEnvC scope cl Cd X.env) fp E) elt te) (hs : ∀ x, foldedSetIterable iter X.env x = pure x) :
    PE X (.ListComp elt [⟨tg, iter, ifs, 0⟩] scope pos) (tLc wi g tt te (own.map (·.2))) := by
  refine ⟨fun pins s σ H Q I h => ?_⟩
  rw [eval_ListComp]
  refine lcR_core hc hN hsk hfl tk I hi ok hg ht he hs h fun D ce s' m H' I' q hn f => ⟨m, hn, fun h2 sb => ?_⟩
  obtain ⟨f0, f1, f2, f3, f4, f5⟩ := f
  exact ⟨.ref D, H', I'.turned (t' := s'.toks) (fun b o hb e => (sb.2 b hb).trans e) f0 f1 f3 f4 f5, rfl, q⟩
theorem ps_setLcR {i : Nat} {y : Str} {py spos : Pos} (hc : X.calm = true) (hN : X.N.Nodup) (hsk : X.stack = X.env :: X.outer) (hfl : X.env.frame = some X.env.locals) (tk : L2N.Takes X fun cls d _ H => E cls d H) (hy : X.N[i]? = some y) (hyl : X.env.scope.names.lookup y = some .local)
    (hsw : swapsWith (.ListComp elt [⟨tg, iter, ifs, 0⟩] scope pos) (some (.Name y py)) spos.line X.env = pure true) (hi : PI X tg iter wi) (ok : BlkOk X.N X.env.scope scope own)
    (hg : ∀ (s : Shared) (H : Hp) (Cd : Addr) (cl : List (Str × Addr)) (fp : List Addr), PG (X.blk s H scope (compEnvC scope cl Cd X.env) fp) tg g)
    (ht : ∀ (s : Shared) (H : Hp) (Cd : Addr) (cl : List (Str × Addr)) (fp : List Addr), PTs (X.blk s H scope (compEnvC scope cl Cd X.env) fp) ifs tt)
    (he : ∀ (s : Shared) (H : Hp) (Cd : Addr) (cl : List (Str × Addr)) (fp : List Addr), PE (blkE X s H scope (compEnvC scope cl Cd X.env) fp E) elt te) (hs : ∀ x, foldedSetIterable iter X.env x = pure x) :
    PS X (.Assign [.Name y py] (.ListComp elt [⟨tg, iter, ifs, 0⟩] scope pos) spos) (tAsg (tLc wi g tt te (own.map (·.2))) (gName i)) := by
  refine ⟨fun pins s σ H D I h => ?_⟩
  rw [exec_Assign_Name_used _ _ _ _ hsw]
  refine wpAny_bind (wpAny_standAt (wpAny_bind (wpAny_bind (thn (lcR_core (Q := fun x H1 => gName i x σ H1 D.nx) (use := some (assign (.Name y py) X.env)) (Qf := fun _ s' => SP X pins D .next s') hc hN hsk hfl tk I hi ok hg ht he hs h fun L ce s' m H' I' q hn f => ?_) fun _ s' hq => wpAny_pure (wpAny_pure hq)))))
  refine wpAny_assign_Name (store_ok2 (v := V.ref L) I' hN hy (.inl hyl) rfl (fun s2 I2 ⟨a, sb, ha⟩ => ?_) (.inr hyl))
  obtain ⟨f0, f1, f2, f3, f4, f5⟩ := f
  have ca : ce.locals ≠ a := by
    rcases ha with z | z
    · rw [z]; exact f1
    · exact fun e => f4 y a z e.symm
  exact ⟨m, hn.sameBut sb ca, fun h3 sb3 => ⟨_, H', I2.turned (t' := s2.toks) (fun b o hb e => (sb3.2 b hb).trans e) f0 f1 f3 f4 f5, q⟩⟩
end
end Z

/-! ## ZX -/
set_option Elab.async false
set_option linter.all false
set_option maxRecDepth 100000
set_option maxHeartbeats 2000000
namespace Z
open PySem PySem.Spec PyProof.Rows L2 HotX
/-! ### raise X(..) from e, e the exception in hand -/
def fromH (h : Heap) (a x1 : Addr) : Heap := (h.update a (Obj.mapFields (·.setIfInBounds 3 (.ref x1)))).update a (Obj.mapFields (·.setIfInBounds 4 (.bool true)))
theorem fromH_other {h : Heap} {a b x1 : Addr} (hne : a ≠ b) : (fromH h a x1).get? b = h.get? b :=
  (Heap.get?_update_other _ _ hne).trans (Heap.get?_update_other _ _ hne)
theorem fromH_at {h : Heap} {a x1 : Addr} {oe : Obj} {vs : Array Value} (ha : h.get? a = some oe) (hd : oe.data = .fields vs) :
    (fromH h a x1).get? a = some ((oe.mapFields (·.setIfInBounds 3 (.ref x1))).mapFields (·.setIfInBounds 4 (.bool true))) ∧ ((oe.mapFields (·.setIfInBounds 3 (.ref x1))).mapFields (·.setIfInBounds 4 (.bool true))).data = .fields ((vs.setIfInBounds 3 (.ref x1)).setIfInBounds 4 (.bool true)) := by
  have d3 := Obj.data_mapFields hd (·.setIfInBounds 3 (.ref x1))
  have d4 := Obj.data_mapFields d3 (·.setIfInBounds 4 (.bool true))
  exact ⟨Heap.get?_update_self _ (Heap.get?_update_self _ ha (Obj.isFreed_of_fields d3)) (Obj.isFreed_of_fields d4), d4⟩
section
variable {prog : Program} {w : World} {A : Around} {E : Value → Shared → Prop} {env : PySem.Env} {s : Shared}
theorem notType_at {a : Addr} {o : Obj} {us : Array Value} (ha : s.heap.get? a = some o) (hd : o.data = .fields us) {Q' : Bool → Shared → Prop} (q : Q' false s) : wpAny (model prog w) A (isType (.ref a)) Q' E s := by
  simp only [isType, loadHead]
  exact wpAny_bind (wpAny_loadPart ha (by rw [hd]; exact wpAny_pure q))
theorem excVal_at {a : Addr} {o : Obj} {us : Array Value} {cls : Value} {msg : String} (ha : s.heap.get? a = some o) (hc : o.cls = cls) (hd : o.data = .fields us) (L1 : PySem.W.Looks (model prog w) s.heap (isSubtype cls (.type "BaseException")) true) {Q' : Value → Shared → Prop} (q : Q' (.ref a) s) :
    wpAny (model prog w) A (excFromValue (.ref a) msg) Q' E s := by
  have LT : PySem.W.Looks (model prog w) s.heap (typeOf (.ref a)) cls := fun A' Q2 E2 s2 k q2 => wpAny_typeOf_ref (k _ _ ha) (hc.symm ▸ q2)
  unfold excFromValue isExcClass
  refine wpAny_bind (wpAny_bind (notType_at ha hd ?_))
  simp only [Bool.false_eq_true, if_false]
  refine wpAny_pure ?_
  simp only [Bool.false_eq_true, if_false]
  have LI : PySem.W.Looks (model prog w) s.heap (isInstance (.ref a) (.type "BaseException")) true := LT.andThen L1
  refine wpAny_bind (LI.here ?_)
  simp only [if_true]
  exact wpAny_pure q
theorem raise_from {x c : Sem Value} {Q : Flow → Shared → Prop} {x1 : Addr} {cls1 : Value}
    (h : wpAny (model prog w) A x (fun v s1 => ∃ a oe vs cls o1 us, v = .ref a ∧ s1.heap.get? a = some oe ∧ oe.cls = cls ∧ oe.data = .fields vs ∧ vs[1]? = some .none ∧ 4 < vs.size ∧ x1 ≠ a ∧ HotAt A x1 s1.heap ∧
      PySem.W.Looks (model prog w) s1.heap (isSubtype cls (.type "BaseException")) true ∧ PySem.W.Looks (model prog w) (fromH s1.heap a x1) (typeOf cls) (.type "type") ∧
      (∀ Q' : Value → Shared → Prop, Q' (.ref x1) s1 → wpAny (model prog w) A c Q' E s1) ∧ s1.heap.get? x1 = some o1 ∧ o1.cls = cls1 ∧ o1.data = .fields us ∧ PySem.W.Looks (model prog w) s1.heap (isSubtype cls1 (.type "BaseException")) true ∧
      E (.ref a) { s1 with heap := (fromH s1.heap a x1).update a (Obj.mapFields (·.setIfInBounds 2 (.ref x1))) }) E s) :
    wpAny (model prog w) A (raiseStmt env (some x) (some c)) Q E s := by
  unfold raiseStmt
  dsimp only
  refine wpAny_bind (wpAny_mono h (fun v s1 hv => ?_) fun _ _ z => z)
  obtain ⟨a, oe, vs, cls, o1, us, rfl, ha, hcls, hd, h1, hi, hne, hot, L1, L3, hc, hx, hcls1, hdx, LX, hE⟩ := hv
  have d3 := Obj.data_mapFields hd (·.setIfInBounds 3 (.ref x1))
  have a3 := Heap.get?_update_self (Obj.mapFields (·.setIfInBounds 3 (.ref x1))) ha (Obj.isFreed_of_fields d3)
  obtain ⟨a4, d4⟩ := fromH_at (x1 := x1) ha hd
  have z3 : 3 < vs.size := by omega
  have z4 : 4 < (vs.setIfInBounds 3 (Value.ref x1)).size := by rw [set_size]; exact hi
  have z2 : 2 < ((vs.setIfInBounds 3 (Value.ref x1)).setIfInBounds 4 (Value.bool true)).size := by rw [set_size, set_size]; omega
  have v1 : ((vs.setIfInBounds 3 (Value.ref x1)).setIfInBounds 4 (Value.bool true))[1]? = some Value.none := set_other (by decide) (set_other (by decide) h1)
  have c4 : ((oe.mapFields (·.setIfInBounds 3 (.ref x1))).mapFields (·.setIfInBounds 4 (.bool true))).cls = cls := by rw [Obj.cls_mapFields, Obj.cls_mapFields]; exact hcls
  have T4 : PySem.W.Looks (model prog w) (fromH s1.heap a x1) (typeOf (.ref a)) cls := fun A' Q2 E2 s2 k q2 => wpAny_typeOf_ref (k _ _ a4) (by rw [c4]; exact q2)
  have hot4 : HotAt A x1 (fromH s1.heap a x1) := by
    obtain ⟨q1, o, vs', q2, q3, q4⟩ := hot
    exact ⟨q1, o, vs', by rw [fromH_other (Ne.symm hne)]; exact q2, q3, q4⟩
  have tail : wpAny (model prog w) A (do
      let b ← isType (.ref a)
      let e ← if b = true then holding [.ref a] (raisedFor (.ref a) (.ref a)) else raisedInstance (.ref a)
      setFlight e none
      raiseNew e : Sem Flow) Q E { s1 with heap := fromH s1.heap a x1 } := by
    refine wpAny_bind (notType_at (s := { s1 with heap := fromH s1.heap a x1 }) a4 d4 ?_)
    simp only [Bool.false_eq_true, if_false]
    unfold raisedInstance
    refine wpAny_bind (wpAny_bind (T4.here (wpAny_bind (L3.here ?_))))
    rw [if_pos (beq_self_eq_true _)]
    refine wpAny_pure ?_
    unfold setFlight
    refine wpAny_bind (wpAny_bind (wpAny_field a4 d4 v1 ?_))
    rw [if_neg (by decide)]
    refine wpAny_pure ?_
    exact raiseNew_hot hot4 hne a4 d4 z2 hE
  refine wpAny_bind (wpAny_holding (hc _ (wpAny_bind (wpAny_pure ?_))))
  dsimp only
  refine wpAny_bind (wpAny_holding (excVal_at ha hcls hd L1 ?_))
  rw [if_neg (show ¬ ((Value.ref x1 == Value.none) = true) from by simp)]
  refine wpAny_bind (wpAny_holding (excVal_at hx hcls1 hdx LX ?_))
  exact wpAny_bind (wpAny_setField ha hd z3 (wpAny_bind (wpAny_setField a3 d3 z4 tail)))
end
section
variable {S : Cx} {W : WX}
theorem pmk5_own {x m : Str} {D : Addr} {bmB : List Value} {B newId initId : String} {j : Nat} {p p2 pos : Pos} (F : ExcBaseFacts B newId initId bmB) (q : PySem.W.excIn S.K D bmB newId = true) (gD : S.mg x = some (.ref D)) (kD : PySem.W.keepIn S.K (.ref D) = true) (r : Raises S (.ref D)) (hg : Gl S x)
    (hdb : (x == ("__debug__" : Str)) = false := by decide) : L2H.PMk5 S (.Call (.Name x p) [.Constant (.str m) j p2] [] pos) (fun _ H Q => Q (.ref D) none H) := by
  intro pins s σ H Q I h
  refine wpAny_Call_Name_kw (ld_glob I hg gD ?_ hdb)
  have one : PA S [.Constant (.str m) j p2] (tCons (tC (.str m)) tNil) := pa_cons pe_str pa_nil
  refine PySem.W.callWith_K (h₀ := S.base) I.ok.mod.kin kD (thn (one.run pos pins s σ H (fun us H2 => us = [V.str m] ∧ H = H2) I ⟨rfl, rfl⟩) fun us s2 ⟨ws, H2, I2, r2, ew, eH⟩ => ?_)
  subst ew
  rw [← eH] at I2
  refine ⟨I2.kIn, ?_⟩
  cases r2 with
  | @cons _ u _ us2 ru rn =>
    cases rn
    show wpAny _ _ (call (.ref D) [u]) _ _ _
    obtain ⟨_, _, _, _, _, _, _, _, _, _, _, _, _, _, _, _, _, y1, y2, y3, y4⟩ := exc_obj I2.kIn q
    exact wpAny_call_exc_subT F y4 y1 y2 y3 (fun h' e hm => L2H.mk_of5 I2 hm r h (I2.hok.gone hm.new)) (by show 1 ≤ sizeLine; rw [sizeLine_eq]; omega)
/-- a local, read: nothing changes -/
theorem ld_var {pins : List (Addr × Obj)} {s : Shared} {σ : L2.St} {H : Hp} {i : Nat} {x : Str} {pos : Pos} {v : V} (I : Inv S pins σ H s) (hN : S.N[i]? = some x) (e : σ[i]? = some (some v)) (hv : Vis S.env.scope x) (hd : (x == ("__debug__" : Str)) = false) (hcd : (x == ("__classdict__" : Str)) = false) :
    ∃ u, RelV v u ∧ ∀ (Q E : Value → Shared → Prop), Q u s → wpAny (model S.prog S.w) S.A (eval (.Name x pos) S.env) (fun u' s' => Q u' s') (fun u' s' => E u' s') s := by
  obtain ⟨m, hn, hl⟩ := I.loc
  obtain ⟨u, r, l⟩ := hl i x v hN e hv
  refine ⟨u, r, fun Q E q => ?_⟩
  rcases l with ⟨k1, k2⟩ | ⟨k1, c, k2, k3⟩
  · exact wpAny_Name (wpAny_loadName_local I.ok.kind k1 hn k2 q) hd
  · rcases k1 with k1 | k1
    · exact wpAny_Name (wpAny_loadName_cell I.ok.kind k1 k2 k3 q) hd
    · exact wpAny_Name (wpAny_loadName_free I.ok.kind k1 k2 k3 q hcd) hd
/-- raise X(..) from n, n the exception in hand -/
theorem ps_raiseFrom {e : Expr} {t : L2.St → Hp → XK → Prop} {i : Nat} {n : Str} {cls1 : Value} {x1 : Addr} {o1 : Obj} {cpos pos : Pos} (hh : L2H.Hot1 S.A (x1, o1)) (hm : (x1, o1) ∈ S.pn) (hcls : o1.cls = cls1) (r1 : Raises S cls1) (tk : L2.Takes S W) (he : L2H.PMk5 S e t)
    (hN : S.N[i]? = some n) (hv : Vis S.env.scope n) (hd : (n == ("__debug__" : Str)) = false) (hcd : (n == ("__classdict__" : Str)) = false) :
    PS S (.Raise (some e) (some (.Name n cpos)) pos) (fun _ σ H => σ[i]? = some (some (.ref x1)) ∧ t σ H fun cls d H' => W cls d σ H') := by
  refine ⟨fun pins s σ H D I h => ?_⟩
  obtain ⟨e1, h⟩ := h
  obtain ⟨hA, v1, d1, c1⟩ := hh
  show wpAny _ _ (do standAt pos; raiseStmt S.env (some (do let v ← eval e S.env; standAt pos; pure v)) (some (do let v ← eval (.Name n cpos) S.env; standAt pos; pure v))) _ _ _
  refine wpAny_bind (wpAny_standAt (raise_from (x1 := x1) (cls1 := cls1) (wpAny_bind (wpAny_mono (he pins s σ H _ I h) (fun u s1 hu => wpAny_bind (wpAny_standAt (wpAny_pure ?_))) fun _ _ z => z))))
  obtain ⟨⟨a, oe, vs, sI, H', cls, d, rfl, J, k, hne, ha, hz, hd1, h1, na, os, ag, r, q⟩, h5⟩ := hu
  have hi : 4 < vs.size := h5 a oe vs rfl ha hd1
  have P1 := (J.pin (x1, o1) (List.mem_append_left _ hm)).1
  have nab : x1 ≠ a := fun z => by
    rw [show (x1, o1).1 = x1 from rfl, z, hne] at P1
    cases P1
  have other : ∀ b u, sI.heap.get? b = some u → a ≠ b := fun b u z y => by
    rw [← y, hne] at z
    cases z
  have k4 : ∀ b u, sI.heap.get? b = some u → (fromH s1.heap a x1).get? b = some u := fun b u z => (fromH_other (other b u z)).trans (k b u z)
  have J1 : Inv S pins σ H' s1 := J.landed (B := s1.heap) (fun b o z _ => k b o z) (fun b o z => z) (Heap.UpToSlots.of_keeps k) os ag
  obtain ⟨u, ru, run⟩ := ld_var (pos := cpos) J1 hN e1 hv hd hcd
  cases (show u = Value.ref x1 from ru)
  obtain ⟨a4, d4⟩ := fromH_at (x1 := x1) ha hd1
  have h12 : (((vs.setIfInBounds 3 (Value.ref x1)).setIfInBounds 4 (Value.bool true)).setIfInBounds 2 (Value.ref x1))[1]? = some Value.none := set_other (by decide) (set_other (by decide) (set_other (by decide) h1))
  refine ⟨a, oe, vs, cls, o1, v1, rfl, ha, hz.1, hd1, h1, hi, nab, ⟨hA, o1, v1, k _ _ P1, d1, c1⟩, (r (model S.prog S.w) s1.heap (J.kIn.keeps k)).1, (r (model S.prog S.w) (fromH s1.heap a x1) (J.kIn.keeps k4)).2,
    fun Q' q' => wpAny_bind (run _ _ (wpAny_bind (wpAny_standAt (wpAny_pure q')))), k _ _ P1, hcls, d1, (r1 (model S.prog S.w) s1.heap (J.kIn.keeps k)).1, tk _ _ (XE.new J (fun b u z => ?_) hne (Heap.get?_update_self _ a4 (Obj.isFreed_of_fields (Obj.data_mapFields d4 _)))
      ⟨by rw [Obj.cls_mapFields, Obj.cls_mapFields, Obj.cls_mapFields]; exact hz.1, by rw [HandSPX.dict_mapFields, HandSPX.dict_mapFields, HandSPX.dict_mapFields]; exact hz.2.1⟩ (Obj.data_mapFields d4 _) h12 na os ag q)⟩
  exact (Heap.get?_update_other _ _ (other b u z)).trans (k4 b u z)
end
end Z

/-! ## ZY -/
set_option Elab.async false
set_option linter.all false
set_option maxRecDepth 100000
set_option maxHeartbeats 2000000
namespace Z
open PySem PySem.Spec PyProof.Rows L2 HotX
/-! ### try: body, except x as n: raise .. from n -/
/-- the frame's names change, nothing else -/
theorem inv_names {X : Cx} {pins : List (Addr × Obj)} {σ : L2.St} {H : Hp} {s : Shared} (I : Inv X pins σ H s) {h2 : Heap} {m2 : Str → Option Value} (hs : ∀ b, b ≠ X.env.locals → h2.get? b = s.heap.get? b) (hn : h2.Ns X.env.locals m2) :
    Inv X pins (σ.map fun _ => none) H { s with heap := h2 } := by
  have old : ∀ b o, X.s_0.heap.get? b = some o → b ≠ X.env.locals := fun b o e z => absurd (Nat.lt_of_lt_of_le (Heap.lt_size e) I.ok.above) (by rw [z]; exact Nat.lt_irrefl _)
  refine ⟨I.ok, I.os, I.bare, ⟨fun b o e n hb hx => ?_, fun b o e n hb hx => ?_, I.base.free, fun b o e hx => ?_, I.base.tups, I.base.frzs, I.base.tbls⟩, ⟨m2, hn, fun j y v e1 e2 e3 => ?_⟩, fun y c e => ?_, I.free, I.freeC, fun p hp => ?_, fun b ob e => ?_, by rw [List.length_map]; exact I.len⟩
  · exact (hs b (old b o e)).trans (I.base.keep b o e n hb hx)
  · obtain ⟨sl, z⟩ := I.base.slot b o e n hb hx
    exact ⟨sl, (hs b (old b o e)).trans z⟩
  · obtain ⟨o2, z⟩ := I.base.there b o e hx
    exact ⟨o2, (hs b (old b o e)).trans z⟩
  · rw [List.getElem?_map] at e2
    cases q : σ[j]? with
    | none => rw [q] at e2; cases e2
    | some o => rw [q] at e2; cases e2
  · obtain ⟨v, o, ho, hd⟩ := I.cell y c e
    exact ⟨v, o, (hs c (I.cne y c e)).trans ho, hd⟩
  · obtain ⟨z1, z2, z3, z4, z5⟩ := I.pin p hp
    exact ⟨(hs p.1 z3).trans z1, z2, z3, z4, z5⟩
  · refine (I.hok b ob e).stay (fun c u hc q => (hs c fun z => ?_).trans q) (fun _ q => q) fun _ _ q => q
    rw [z] at hc
    rcases hc with hc | hc
    · rw [← hc, I.free] at e; cases e
    · rw [I.free] at hc; cases hc
theorem sky_note {M : Model} {A : Around} {E₁ : Value → Shared → Prop} {env : PySem.Env} {outer : List PySem.Env} {L a : Addr} {cls : Value} {d : Option Addr} {B : Heap} {s : Shared} {Q : Unit → Shared → Prop} (hfr : A.frames = some (env :: outer)) (hf : env.frame = some L)
    (x : Sky B (env :: outer) a (Zc cls d) L s.heap) (hQ : ∀ h', HandSPX.HeldZ B (env :: outer) a (Zc cls d) L h' → s.heap.UpToSlots h' → Q () { s with heap := h' }) : wpAny M A (noteFrame (.ref a) env) Q E₁ s := by
  rcases x with ⟨z1, z2, z3, oe, vs, z4, z5, z6, z7⟩ | x | x
  · exact HandSPX.look_newZ Zc.steady hfr z3 hf z4 z1 z2 z6 z7 z5 hQ
  · exact HandSPX.looks_onZ Zc.steady hfr hf x hQ
  · exact HandSPX.againZ hf x.2.2.2 (hQ s.heap x (Heap.UpToSlots.refl _))
/-- the context of such a suite -/
abbrev suiteE (X : Cx) (a : Addr) (pn : List (Addr × Obj)) (E : XK) : Cx := (L2H.suiteX X a pn).wish fun u s' => L2.XE (L2H.suiteX X a pn) (fun cls d _ H => E cls d H) u s'
theorem suiteE_takes {X : Cx} {a : Addr} {pn : List (Addr × Obj)} {E : XK} : L2.Takes (suiteE X a pn E) fun cls d _ H => E cls d H := fun u s' ⟨b, B, sI, pins, σ, H, cls, d, e, I, nb, up, sky, na, os, ag, w⟩ =>
  ⟨b, B, sI, pins, σ, H, cls, d, e, I.unwish, nb, up, sky, na, os, ag, w⟩
/-- what is held, the frame's names changed -/
theorem held_names {h h2 B : Heap} {env : PySem.Env} {outer : List PySem.Env} {L a : Addr} {Z : Obj → Prop} {m m2 : Str → Option Value} (hh : HandSPX.HeldZ B (env :: outer) a Z L h) (hf : env.frame = some L) (hn : h.Ns L m) (hn2 : h2.Ns L m2) (sb : Heap.SameBut L h h2) : HandSPX.HeldZ B (env :: outer) a Z L h2 := by
  obtain ⟨k1, k2, k3, oe, vs, T, oT, ts, e1, z1, d1, v1, n1, t1, e2, d2, v2⟩ := hh
  have nL : B.get? L = none := by
    obtain ⟨_, ⟨L2, _, q1, q2, _⟩, _⟩ := k3
    rw [hf] at q1
    rw [Option.some.inj q1]
    exact q2
  have nf : ∀ (b : Addr) (o : Obj) (us : Array Value), h.get? b = some o → o.data = .fields us → b ≠ L := fun b o us e d z => by
    obtain ⟨o2, es, ep, e2, d2, _⟩ := hn
    rw [← z, e] at e2
    cases e2
    rw [d] at d2
    cases d2
  refine ⟨fun b o e => (sb.2 b fun z => ?_).trans (k1 b o e), k2, Heap.FunFrames.sameBut sb hn2 k3, oe, vs, T, oT, ts, (sb.2 a (nf a oe vs e1 d1)).trans e1, z1, d1, v1, n1, t1, (sb.2 T (nf T oT ts e2 d2)).trans e2, d2, v2⟩
  rw [z, nL] at e
  cases e
section
variable {X : Cx} {x n : Str} {c : Value} {i : Nat} {body : List Stmt} {st : Stmt} {np pos pos' : Pos} {tb : WX → TS} {ts : Hp → Prop} {E : XK} {R1 : Value → Prop}
theorem ps_try_asR (hs : X.stack = X.env :: X.outer) (hf : X.env.frame = some X.env.locals) (hN : X.N.Nodup) (hi : X.N[i]? = some n) (hln : X.env.kindOf n = some .local) (hc : Names X x c) (tk : L2.Takes X fun cls d _ H => E cls d H)
    (hb : ∀ (W : WX) (pn : List (Addr × Obj)) (xe : Value → Shared → Prop), L2N.Takes (X.tr pn xe) W → PSs (X.tr pn xe) body (tb W))
    (hsu : ∀ (a : Addr) (oe : Obj) (cls : Value) (d : Option Addr) (pn : List (Addr × Obj)), L2N.Zn cls d oe → (∃ vs, oe.data = .fields vs) → R1 cls → PSs (suiteE X a ((a, oe) :: pn) E) [st] fun _ σ H => σ[i]? = some (some (.ref a)) ∧ ts H) :
    PS X (.Try body [.ExceptHandler (some (.Name x np)) (some n) [st] pos'] [] [] pos) (fun D σ H => tb (fun cls _ _ H => PySem.W.exmOne X.K cls c = some true ∧ R1 cls ∧ ts H) D σ H) := by
  refine ⟨fun pins s σ H D I h => ?_⟩
  have ok := I.ok
  have hfr : X.A.frames = some (X.env :: X.outer) := by rw [ok.frames, hs]
  have hloc : Loc X.env.scope n := .inl hln
  refine wpAny_Try_except ?_
  refine wpAny_mono ((hb (fun cls _ _ H => PySem.W.exmOne X.K cls c = some true ∧ R1 cls ∧ ts H) (X.pn ++ pins) (fun e s1 => wpAny (model X.prog X.w) X.A (noteFrame e X.env) (fun _ s2 => wpAny (model X.prog X.w) X.A (setFlight e none) (fun _ s3 =>
    wpAny (model X.prog X.w) X.A (handleBy e X.env [.ExceptHandler (some (.Name x np)) (some n) [st] pos']) (SP X pins D) X.xe s3) X.xe s2) X.xe s1) (fun u s2 xx => ?_)).run [] s σ H D (I.toTry _) h) (fun f s1 hsp => ?_) (fun e s1 he => he)
  · obtain ⟨a, B, sI, pins1, σ1, H1, cls, d, rfl, J0, nb, up, sky, na, os, ag, hb1, hR, hts⟩ := xx
    have J : Inv X pins σ1 H1 sI := J0.ofTry ok
    show wpAny (model X.prog X.w) X.A (noteFrame (.ref a) X.env) _ _ _
    refine L2N.Sky.land L2N.Zn.steady hfr hf (show Sky B (X.env :: X.outer) a (L2N.Zn cls d) X.env.locals s2.heap by rw [← hs]; exact sky) fun h3 fl3 up3 => ?_
    have J3 : Inv X pins σ1 H1 { s2 with heap := h3 } := J.landed nb fl3.1 (up.trans up3) os ag
    obtain ⟨oe3, vs3, he3, hz3, hd3⟩ := fl3.there
    have nfr : a ∉ frs (X.env :: X.outer) := fun hm => by
      obtain ⟨_, o4, e4, hnf⟩ := fl3.2.2.1.mem hm
      rw [he3] at e4; cases e4
      exact hnf _ hd3
    have nL : a ≠ X.env.locals := fun z => nfr (List.mem_filterMap.mpr ⟨X.env, List.mem_cons_self, by rw [hf, z]⟩)
    have nF : a ∉ X.fs := fun hm => by
      obtain ⟨e, he, q⟩ := List.mem_filterMap.mp hm
      exact nfr (List.mem_filterMap.mpr ⟨e, List.mem_cons_of_mem _ he, q⟩)
    have S3 := J3.suite he3 hd3 na nL nF
    refine wpAny_handleBy_cons (codeAny_handlers_test ?_) (by intro q; cases q)
    have LT : PySem.W.Looks (model X.prog X.w) h3 (typeOf (.ref a)) cls := fun A' Q2 E2 s k q => wpAny_typeOf_ref (k _ _ he3) (hz3.1.symm ▸ q)
    have LM := PySem.W.exm_one (M := model X.prog X.w) (J3.kIn) LT hb1
    have test : ∀ {Q : Value → Shared → Prop} {E : Value → Shared → Prop}, Q c { s2 with heap := h3 } → wpAny (model X.prog X.w) (X.A.mark (some (.ref a))) (eval (.Name x np) X.env) Q E { s2 with heap := h3 } := fun {Q E} q => by
      obtain ⟨y1, y2, y3 | ⟨y3, y4, y5⟩⟩ := hc
      · exact ld_glob (X := X.suite a ((a, oe3) :: (X.pn ++ pins))) S3 y1 y3 q y2
      · exact ld_blt (X := X.suite a ((a, oe3) :: (X.pn ++ pins))) S3 y1 y3 y4 q y5 y2
    refine test (LM.here ?_)
    refine codeAny_handlers_suite_as ?_
    refine HandSPX.lands_againZ fl3 fun h4 fl4 up4 => ?_
    have J4 : Inv X pins σ1 H1 { s2 with heap := h4 } := J.landed nb fl4.1 ((up.trans up3).trans up4) os ag
    obtain ⟨oe4, vs4, he4, hz4, hd4⟩ := fl4.there
    have S4 := J4.suite he4 hd4 na nL nF
    have il : i < σ1.length := by rw [J.len]; exact (List.getElem?_eq_some_iff.mp hi).1
    refine store_ok (X := X.suite a ((a, oe4) :: (X.pn ++ pins))) (v := .ref a) S4 hN hi hloc rfl (fun s5 S5 => ?_) (.inr hln)
    have S5' : Inv (suiteE X a ((a, oe4) :: (X.pn ++ pins)) E) [] _ H1 s5 := (L2H.suiteX_of S5).wish _
    refine wpAny_mono ((hsu a oe4 cls d (X.pn ++ pins) hz4 ⟨_, hd4⟩ hR).run [] s5 _ H1 ⟨fun _ _ => False, fun _ _ => False, fun _ _ => False, fun _ _ => False⟩ S5' ⟨List.getElem?_set_self il, hts⟩) (fun f s6 hsp => ?_) (fun u s6 z => ?_)
    · exfalso
      cases f with
      | next => obtain ⟨_, _, _, q⟩ := hsp; exact q
      | brk => obtain ⟨_, _, _, q⟩ := hsp; exact q
      | cont => obtain ⟨_, _, _, q⟩ := hsp; exact q
      | ret u => obtain ⟨_, _, _, _, _, q⟩ := hsp; exact q
    · obtain ⟨b, B6, sI6, pins6, σ6, H6, cls6, d6, rfl, I6, nb6, up6, sky6, na6, os6, ag6, w6⟩ := z
      have J6 : Inv X pins σ6 H6 sI6 := L2H.unsuiteX I6 ok
      refine sky_note (outer := X.outer) hfr hf (by rw [← hs]; exact sky6) fun h7 hh7 up7 => ?_
      obtain ⟨m6, hn6, _⟩ := J6.loc
      have hn7 : h7.Ns X.env.locals m6 := up7.ns (up6.ns hn6)
      have hcls : (X.env.scope.kind == .class || (X.env.scope.kind == .module && X.env.locals != X.env.globals)) = false := by rw [ok.kind]; rfl
      refine wpAny_nameGoes (s := { s6 with heap := h7 }) hln hn7 hcls fun h8 m8 hn8 sb8 => ?_
      have hh8 := held_names hh7 hf hn7 hn8 sb8
      unfold PySem.passOn
      obtain ⟨_, _, _, oe, vs, T9, oT, ts9, e1, z1, d1, v1, n1, t1, e2, d2, v2⟩ := id hh8
      refine wpAny_bind (wpAny_field e1 d1 v1 ?_)
      rw [if_neg (show ¬ ((Value.ref T9 == Value.none) = true) from by simp)]
      have fin : ∀ (h9 : Heap), HandSPX.HeldZ B6 (X.env :: X.outer) b (Zc cls6 d6) X.env.locals h9 → h8.UpToSlots h9 → X.xe (.ref b) { s6 with heap := h9, toks := s6.toks + 1 } := fun h9 hh9 up9 => by
        obtain ⟨o8, es8, ep8, g8, r8⟩ := id hn8
        obtain ⟨o6, es6, ep6, g6, r6⟩ := id hn6
        have free8 : o8.isFreed = false := (Heap.get?_some_iff.mp g8).2
        have hL : (sI6.heap.update X.env.locals fun _ => o8).get? X.env.locals = some o8 := Heap.get?_update_self (fun _ => o8) g6 free8
        have hO : ∀ b, b ≠ X.env.locals → (sI6.heap.update X.env.locals fun _ => o8).get? b = sI6.heap.get? b := fun b hb => Heap.get?_update_other _ _ (Ne.symm hb)
        have memL : X.env.locals ∈ frs X.stack := by rw [hs]; exact List.mem_filterMap.mpr ⟨X.env, List.mem_cons_self, hf⟩
        refine tk _ _ ⟨b, B6, { sI6 with heap := sI6.heap.update X.env.locals fun _ => o8 }, pins, _, H6, cls6, d6, rfl, inv_names J6 hO ⟨o8, es8, ep8, hL, r8⟩, fun b2 o2 e hb2 => ?_, fun b2 o2 e hf2 => ?_, .inr (.inr (by rw [hs]; exact hh9)), na6, os6, ag6, w6⟩
        · exact nb6 b2 o2 ((hO b2 fun z => hb2 (z ▸ memL)).symm.trans e) hb2
        · by_cases c : b2 = X.env.locals
          · have e' : some o8 = some o2 := hL.symm.trans ((congrArg (sI6.heap.update X.env.locals fun _ => o8).get? c).symm.trans e)
            cases e'
            obtain ⟨sl, q⟩ := up9 X.env.locals o8 g8 hf2
            exact ⟨sl, by rw [c]; exact q⟩
          · obtain ⟨sl, q⟩ := (up6.trans up7) b2 o2 ((hO b2 c).symm.trans e) hf2
            obtain ⟨sl2, q2⟩ := up9 b2 { o2 with slots := sl } ((sb8.2 b2 c).trans q) hf2
            exact ⟨sl2, q2⟩
      have cont : ∀ (h9 : Heap), HandSPX.HeldZ B6 (X.env :: X.outer) b (Zc cls6 d6) X.env.locals h9 → h8.UpToSlots h9 → cameBackBy (model X.prog X.w) X.A X.env X.xe (.ref b) { s6 with heap := h9, toks := s6.toks + 1 } := fun h9 hh9 up9 => by
        obtain ⟨_, _, _, oe, vs, T9, oT, ts9, e1, z1, d1, v1, n1, t1, e2, d2, v2⟩ := id hh9
        unfold cameBackBy
        refine wpAny_bind (wpAny_field e1 d1 v1 ?_)
        rw [if_neg (show ¬ ((Value.ref T9 == Value.none) = true) from by simp)]
        have fl : wpAny (model X.prog X.w) X.A (setFlight (.ref b) X.env.frame) (fun _ s2 => X.xe (.ref b) s2) X.xe { s6 with heap := h9, toks := s6.toks + 1 } := by
          rw [hf]
          exact HandSPX.setFlight_onZ hh9 fun h10 hh10 up10 => fin h10 hh10 (up9.trans up10)
        first
          | exact wpAny_bind (wpAny_pure (wpAny_bind fl))
          | exact wpAny_bind (wpAny_pure fl)
          | exact wpAny_bind fl
          | exact fl
      have last : wpAny (model X.prog X.w) (X.A.mark (some (.ref a))) (setFlight (.ref b) X.env.frame) (fun _ s2 => wpAny (model X.prog X.w) (X.A.mark (some (.ref a))) (throw (.ref b) : Sem Flow) (fun _ _ => False)
          (notedBy (model X.prog X.w) (X.A.mark (some (.ref a))) X.env fun x s' => cameBackBy (model X.prog X.w) X.A X.env X.xe x s') s2) (notedBy (model X.prog X.w) (X.A.mark (some (.ref a))) X.env fun x s' => cameBackBy (model X.prog X.w) X.A X.env X.xe x s') { s6 with heap := h8, toks := s6.toks + 1 } := by
        rw [hf]
        refine HandSPX.setFlight_onZ hh8 fun h9 hh9 up9 => wpAny_throw ?_
        show wpAny _ _ (noteFrame (.ref b) X.env) _ _ _
        exact HandSPX.againZ hf hh9.2.2.2 (cont h9 hh9 up9)
      first
        | exact wpAny_bind (wpAny_pure (wpAny_bind last))
        | exact wpAny_bind last
  · cases f with
    | next =>
      obtain ⟨σ2, H2, J2, q⟩ := hsp
      exact wpAny_execs_nil ⟨σ2, H2, J2.ofTry ok, q⟩
    | brk =>
      obtain ⟨σ2, H2, J2, q⟩ := hsp
      exact ⟨σ2, H2, J2.ofTry ok, q⟩
    | cont =>
      obtain ⟨σ2, H2, J2, q⟩ := hsp
      exact ⟨σ2, H2, J2.ofTry ok, q⟩
    | ret u =>
      obtain ⟨v, σ2, H2, J2, r, q⟩ := hsp
      exact ⟨v, σ2, H2, J2.ofTry ok, r, q⟩
end
end Z

/-! ## ZZ -/
set_option Elab.async false
set_option linter.all false
set_option maxRecDepth 100000
set_option maxHeartbeats 2000000
namespace Z
open PySem PySem.Spec PyProof.Rows L2
/-! ### defs whose exceptions may have a context -/
theorem cx_up {P : Program} {w : World} {outer : List PySem.Env} {H : Hp} {s : Shared} {E : XK} {u : Value} {s' : Shared} (c : L2N.CX P w outer H s E u s') : L2.CX P w outer H s E u s' := by
  obtain ⟨a, B, H', cls, d, e, fl, r⟩ := c
  exact ⟨a, B, H', cls, d, e, L2H.flyingZ_imp (fun o z => z.zc) fl, r⟩
theorem passLN {X : Cx} {E : XK} (h : Passes (L2.CX X.prog X.w) X E) : Passes (L2N.CX X.prog X.w) X E := fun pins σ H s e s' I c => h pins σ H s e s' I (cx_up c)
theorem takesN {X : Cx} {W : WX} (tk : L2.Takes X W) : L2N.Takes X W := fun u s' ⟨a, B, sI, pins, σ, H, cls, d, e, I, nb, up, sky, r⟩ =>
  tk u s' ⟨a, B, sI, pins, σ, H, cls, d, e, I, nb, up, by
    rcases sky with ⟨z1, z2, z3, oe, vs, z4, z5, z6⟩ | x | x
    · exact .inl ⟨z1, z2, z3, oe, vs, z4, z5.zc, z6⟩
    · exact .inr (.inl (L2H.flyingZ_imp (fun o z => z.zc) x))
    · exact .inr (.inr ⟨x.1, x.2.1, x.2.2.1, L2H.tracedZ_imp (fun o z => z.zc) x.2.2.2⟩), r⟩
section
variable {P : Program} {w : World} {K : PySem.W.Frag} {mg : Str → Option Value} {base : Heap} {C : CM}
theorem fnOk_ofL {x qual : Str} {params : Arguments} {body : List Stmt} {scope : Scope} {f : Addr} {fd : FuncData} {N ps : List Str} {k n : Nat} {den : SD} (F : FunD K x qual params body scope [] [] f fd) (S : FnScope N ps scope) (hn : ps.length = n) (hN : n ≤ N.length)
    (hbody : ∀ (cdv : Value) (A : Around) (outer : List PySem.Env) (s : Shared) (H : Hp) (E : XK), Room k (A.deeper (envOfC qual scope s.heap.objs.size f cdv)) →
      SB (cxOf (L2.CX P w) P w K mg base N qual scope f cdv A outer s H E) E C body den) :
    FnOk P w K mg base (L2.CX P w) (k + 1) f fd ps (SpF K C n (denF N.length n den)) := by
  refine F.ok S (fun vs H Q E h => ?_) (fun cdv A outer s H vs Q E hr h => ?_)
  · obtain ⟨G, ds, s, r, l, _⟩ := h
    rw [r.length, l, hn]
  · obtain ⟨G, ds, sm, r, l, q⟩ := h
    obtain ⟨t, p, sim⟩ := hbody cdv A outer s H E hr
    refine ⟨t, p, sim G H G H _ _ _ (start_ok sm r l hN) ?_⟩
    unfold denF at q
    split at q
    · rename_i ρ e
      rw [e]
      exact fun σ G' H' _ I => q .non G' H' I.b .non
    · rename_i r e
      rw [e]
      exact fun v G' H' g hr => q v G' H' g hr
    · rename_i r ρ e
      rw [e]
      exact fun v σ G' H' s I hr => q v G' H' I.b hr
    · rename_i c e
      rw [e]
      exact fun G' H' g => q G' H' g
    · rename_i c ρ e
      rw [e]
      exact fun σ G' H' s I => q G' H' I.b
    · exact q.elim
structure CalL (P : Program) (w : World) (K : PySem.W.Frag) (mg : Str → Option Value) (base : Heap) (C : CM) (x : Str) (k n : Nat) (ps : List Str) (fn : List PD → Out R) : Prop where
  p : ∃ (f : Addr) (fd : FuncData), FnOk P w K mg base (L2.CX P w) k f fd ps (SpF K C n fn) ∧ mg x = some (.ref f) ∧ PySem.W.keepIn K (.ref f) = true ∧ Binds K fd ps []
theorem cxL_no {P : Program} (w : World) (H : Hp) (s : Shared) (e : Value) (s' : Shared) (h : L2.CX P w [] H s (fun _ _ _ => False) e s') : False := by
  obtain ⟨_, _, _, _, _, _, _, _, _, _, _, _, z⟩ := h
  exact z
end
section
variable {X : Cx} {E : XK} {C : CM}
theorem se_calL {k kk n : Nat} {ps : List Str} {fn : List PD → Out R} {x : Str} {e : Expr} {es : List Expr} {a : AD} {p pos : Pos} (G : CalL X.prog X.w X.K X.mg X.base C x k n ps fn) (hr : Room kk X.A) (hk : k ≤ kk) (hx : Passes (L2.CX X.prog X.w) X E)
    (hl : ALen a n) (ha : SA X E C (e :: es) a) (hg : Gl X x := by rfl) (hdb : (x == ("__debug__" : Str)) = false := by decide) (he : starEach (e :: es) X.env = (false, eval e X.env) :: starEach es X.env := by rfl) (hpl : (backTo pos (starEach es X.env)).any (·.1) = false := by rfl) :
    SE X E C (.Call (.Name x p) (e :: es) [] pos) (callD fn a) := by
  obtain ⟨f, fd, F, hm, hkp, hb⟩ := G.p
  exact se_call F (hr.mono hk) hx hm hkp hb hl ha hg hdb he hpl
/-! ### try: f(..), f's exceptions with or without a context, except D as e: suite that returns -/
theorem ss_tryL {k kk n i : Nat} {ps : List Str} {fn : List PD → Out R} {x nm cx : Str} {cv : Value} {e : Expr} {es : List Expr} {a : AD} {b₀ : Stmt} {suite : List Stmt} {p cpos epos np pos' pos : Pos} (su : String → Option (Addr → SD)) (G : CalL X.prog X.w X.K X.mg X.base C x k n ps fn) (hr : Room kk X.A) (hk : k ≤ kk)
    (hl : ALen a n) (ha : ∀ pn xe, SA (X.tr pn xe) EF C (e :: es) a) (hs : X.stack = X.env :: X.outer) (hf : X.env.frame = some X.env.locals) (hN : X.N.Nodup) (hi : X.N[i]? = some nm) (hln : X.env.kindOf nm = some .local) (hc : Names X cx cv) (tk : L2.Takes X (fun cls d _ H => E cls d H))
    (hcat : ∀ c s, su c = some s → PySem.W.exmOne X.K (C c) cv = some true)
    (hsu : ∀ c s, su c = some s → ∀ a oe pn, Zc (C c) none oe → (∃ vs, oe.data = .fields vs) → SB (X.suite a ((a, oe) :: pn)) EF C (b₀ :: suite) (s a))
    (hg : Gl X x := by rfl) (hdb : (x == ("__debug__" : Str)) = false := by decide) (he : starEach (e :: es) X.env = (false, eval e X.env) :: starEach es X.env := by rfl) (hpl : (backTo cpos (starEach es X.env)).any (·.1) = false := by rfl)
    (hsw : swapsWith (.Call (.Name x p) (e :: es) [] cpos) none epos.line X.env = pure false := by rfl) :
    SS X E C (.Try [.Expr (.Call (.Name x p) (e :: es) [] cpos) epos] [.ExceptHandler (some (.Name cx np)) (some nm) (b₀ :: suite) pos'] [] [] pos) (tryU fn a i su) := by
  obtain ⟨f, fd, F, hm, hkp, hb⟩ := G.p
  let taS : TA := fun σ H Q => ∀ pn xe, Classical.choose (ha pn xe).p σ H Q
  have paS : ∀ pn xe, PA (X.tr pn xe) (e :: es) taS := fun pn xe => ⟨fun pos pins s σ H Q I h => (Classical.choose_spec (ha pn xe).p).1.run pos pins s σ H Q I (h pn xe)⟩
  have saS : SimA X.K EF C taS a := fun G0 H0 G H σ ρ Q I h pn xe => (Classical.choose_spec (ha pn xe).p).2 G0 H0 G H σ ρ Q I h
  let tsS : Addr → Value → Option Addr → TS := fun a cls d D σ H => ∃ c s, ∃ h : su c = some s, ∃ e1 : cls = C c, ∃ e2 : d = none, ∀ oe pn (hz : Zc (C c) none oe) (hv : ∃ vs, oe.data = .fields vs), Classical.choose (hsu c s h a oe pn hz hv).p D σ H
  have psS : ∀ (a : Addr) (oe : Obj) (cls : Value) (d : Option Addr) (pn : List (Addr × Obj)), Zc cls d oe → (∃ vs, oe.data = .fields vs) → PSs (X.suite a ((a, oe) :: pn)) (b₀ :: suite) (tsS a cls d) := fun a oe cls d pn hz hv => ⟨fun pins s σ H D I h => by
    obtain ⟨c, s1, h1, rfl, rfl, q⟩ := h
    exact (Classical.choose_spec (hsu c s1 h1 a oe pn hz hv).p).1.run pins s σ H D I (q oe pn hz hv)⟩
  refine ⟨_, L2.ps_try_as (tb := fun W D σ H => tCallSD (SpF X.K C n fn) [] (fun σ cls d H => W cls d σ H) taS σ H fun _ H1 => D.nx σ H1) (ts := tsS) hs hf hN hi hln hc tk (fun W pn xe tk' _ => ?_) psS, fun G0 H0 G H σ ρ D I h => ?_⟩
  · exact pss_one (ps_expr (pe_callSD (X := X.tr pn xe) (CX := L2.CX X.prog X.w) F (hr.mono hk) hg hm hkp hb .nil (fun σ pins H s u s' I c => tk' u s' (L2.XE.of_call I (fun cls d H' h => h) c)) (paS pn xe) hdb he hpl) hsw)
  · show taS σ H fun vs H1 => SpF X.K C n fn (vs ++ []) H1 (fun _ H2 => D.nx σ H2) fun cls d H2 => wAs X.K cv i tsS (fun cls d _ H => E cls d H) D cls d σ H2
    unfold tryU at h
    refine saS G0 H0 G H σ ρ _ I ?_
    cases ea : a ρ with
    | ex c => rw [ea] at h; exact h.elim
    | st => rw [ea] at h; exact h.elim
    | ok rs =>
      rw [ea] at h
      simp only [noX] at h
      intro vs G1 H1 g1 k1
      by_cases c : rs.all R.isIm = true
      · rw [if_pos c] at h
        rw [List.append_nil]
        have I1 := I.grow g1
        refine ⟨G1, rs.map R.dat, I1.s, k1.ims (ims_all c), by rw [List.length_map]; exact hl.l _ _ ea, ?_⟩
        cases ef : fn (rs.map R.dat) with
        | ok r => rw [ef] at h; exact fun v G' H' g hr => h σ G' H' (g1.g.trans g.g) (I1.grow g)
        | st => rw [ef] at h; exact h.elim
        | ex c =>
          rw [ef] at h
          simp only at h
          intro G' H' g
          cases es : su c with
          | none => rw [es] at h; exact h.elim
          | some s =>
            rw [es] at h
            simp only at h
            by_cases hind : ∀ a : Addr, s a (ρ.set i (.vv (.ref a))) = s 0 (ρ.set i (.vv (.ref 0)))
            rotate_left
            · rw [if_neg hind] at h; exact h.elim
            rw [if_pos hind] at h
            refine ⟨true, hcat c s es, fun _ b hb => ⟨c, s, es, rfl, rfl, fun oe pn hz hv => ?_⟩, fun z => nomatch z⟩
            have I2 := I1.grow g
            have I3 : EnvOk X.K G0 H0 G' H' (σ.set i (some (.ref b))) (ρ.set i (.vv (.ref b))) := I2.put fun w hw => ⟨w, rfl, fun j e _ h => hw j e h⟩
            refine (Classical.choose_spec (hsu c s es b oe pn hz hv).p).2 G0 H0 G' H' _ _ _ I3 ?_
            rw [hind b]
            have s2 := g1.g.trans g.g
            cases eo : s 0 (ρ.set i (.vv (.ref 0))) with
            | nx ρ' => rw [eo] at h; exact fun σ4 G4 H4 s4 I4 => h _ G4 H4 (s2.trans s4) (I4.setNo i)
            | rt r => rw [eo] at h; exact fun v G4 H4 g4 hr => h v G4 H4 g4 hr
            | rv r ρ' => rw [eo] at h; exact h.elim
            | ev r ρ' => rw [eo] at h; exact h.elim
            | ex c => rw [eo] at h; exact h.elim
            | bk ρ' => rw [eo] at h; exact h.elim
            | ct ρ' => rw [eo] at h; exact h.elim
            | st => rw [eo] at h; exact h.elim
      · rw [if_neg c] at h; exact h.elim
/-! ### try: f(..), except D as n: raise X(..) from n -/
def tryR (f : List PD → Out R) (a : AD) (c0 c2 : String) : SD := fun ρ => match noX (a ρ) with
  | .ok rs => match f (rs.map R.dat) with
    | .ok _ => .nx ρ
    | .ex c => if c = c0 then .ex c2 else .st
    | .st => .st
  | _ => .st
theorem ss_tryR {k kk n i : Nat} {ps : List Str} {fn : List PD → Out R} {x y nm cx m : Str} {c0 c2 : String} {A2 : Addr} {cv : Value} {e : Expr} {es : List Expr} {a : AD} {j : Nat} {p cpos epos np pos' rp rp2 rpos npos spos pos : Pos} {bmB : List Value} {B newId initId : String} (G : Cal X.prog X.w X.K X.mg X.base C x k n ps fn) (hr : Room kk X.A) (hk : k ≤ kk)
    (hl : ALen a n) (ha : ∀ pn xe, SA (X.tr pn xe) EF C (e :: es) a) (hs : X.stack = X.env :: X.outer) (hf : X.env.frame = some X.env.locals) (hN : X.N.Nodup) (hi : X.N[i]? = some nm) (hln : X.env.kindOf nm = some .local) (hc : Names X cx cv) (tk : L2.Takes X (fun cls d _ H => E cls d H))
    (hcat : PySem.W.exmOne X.K (C c0) cv = some true) (hC2 : C c2 = .ref A2) (r0 : Raises X (C c0)) (F2 : ExcBaseFacts B newId initId bmB) (q2 : PySem.W.excIn X.K A2 bmB newId = true) (g2 : X.mg y = some (.ref A2)) (k2 : PySem.W.keepIn X.K (.ref A2) = true) (r2 : Raises X (.ref A2)) (hgy : Gl X y := by rfl) (hdy : (y == ("__debug__" : Str)) = false := by decide)
    (hdn : (nm == ("__debug__" : Str)) = false := by decide) (hcn : (nm == ("__classdict__" : Str)) = false := by decide)
    (hg : Gl X x := by rfl) (hdb : (x == ("__debug__" : Str)) = false := by decide) (he : starEach (e :: es) X.env = (false, eval e X.env) :: starEach es X.env := by rfl) (hpl : (backTo cpos (starEach es X.env)).any (·.1) = false := by rfl)
    (hsw : swapsWith (.Call (.Name x p) (e :: es) [] cpos) none epos.line X.env = pure false := by rfl) :
    SS X E C (.Try [.Expr (.Call (.Name x p) (e :: es) [] cpos) epos] [.ExceptHandler (some (.Name cx np)) (some nm) [.Raise (some (.Call (.Name y rp) [.Constant (.str m) j rp2] [] rpos)) (some (.Name nm npos)) spos] pos'] [] [] pos) (tryR fn a c0 c2) := by
  obtain ⟨f, fd, F, hm, hkp, hb⟩ := G.p
  let taS : TA := fun σ H Q => ∀ pn xe, Classical.choose (ha pn xe).p σ H Q
  have paS : ∀ pn xe, PA (X.tr pn xe) (e :: es) taS := fun pn xe => ⟨fun pos pins s σ H Q I h => (Classical.choose_spec (ha pn xe).p).1.run pos pins s σ H Q I (h pn xe)⟩
  have saS : SimA X.K EF C taS a := fun G0 H0 G H σ ρ Q I h pn xe => (Classical.choose_spec (ha pn xe).p).2 G0 H0 G H σ ρ Q I h
  refine ⟨_, ps_try_asR (E := E) (R1 := fun cls => cls = C c0) (ts := fun H => E (.ref A2) none H) (tb := fun W D σ H => tCallSD (SpF X.K C n fn) [] (fun σ cls d H => W cls d σ H) taS σ H fun _ H1 => D.nx σ H1) hs hf hN hi hln hc tk (fun W pn xe tk' => ?_) (fun a1 oe cls d pn hz hv hR => ?_), fun G0 H0 G H σ ρ D I h => ?_⟩
  · exact pss_one (ps_expr (pe_callSD (X := X.tr pn xe) (CX := L2N.CX X.prog X.w) F (hr.mono hk) hg hm hkp hb .nil (fun σ pins H s u s' I c => tk' u s' (L2N.XE.of_call I (fun cls d H' h => h) c)) (paS pn xe) hdb he hpl) hsw)
  · subst hR
    obtain ⟨vs, hd⟩ := hv
    have mk : L2H.PMk5 (suiteE X a1 ((a1, oe) :: pn) E) (.Call (.Name y rp) [.Constant (.str m) j rp2] [] rpos) (fun _ H Q => Q (.ref A2) none H) := pmk5_own F2 q2 g2 k2 (fun M h k => r2 M h k) hgy hdy
    exact pss_one (ps_raiseFrom (S := suiteE X a1 ((a1, oe) :: pn) E) (W := fun cls d _ H => E cls d H) (x1 := a1) (o1 := oe) (cls1 := C c0) ⟨rfl, vs, hd, hz.2.2 vs hd⟩ List.mem_cons_self hz.1 (fun M h k => r0 M h k) suiteE_takes mk hi (.inl hln) hdn hcn)
  · show taS σ H fun vs H1 => SpF X.K C n fn (vs ++ []) H1 (fun _ H2 => D.nx σ H2) fun cls d H2 => PySem.W.exmOne X.K cls cv = some true ∧ cls = C c0 ∧ E (.ref A2) none H2
    unfold tryR at h
    refine saS G0 H0 G H σ ρ _ I ?_
    cases ea : a ρ with
    | ex c => rw [ea] at h; exact h.elim
    | st => rw [ea] at h; exact h.elim
    | ok rs =>
      rw [ea] at h
      simp only [noX] at h
      intro vs G1 H1 g1 k1
      rw [List.append_nil]
      have I1 := I.grow g1
      refine ⟨H1, rs.map R.dat, Same.refl _, k1.rp I1.s, by rw [List.length_map]; exact hl.l _ _ ea, ?_⟩
      have back : ∀ {G' H'}, Grow H1 H1 G' H' → Grow G1 H1 G1 H' := fun {G' H'} g => ⟨Same.refl _, g.h, I1.s.trans g.h, fun _ _ _ _ h => h⟩
      cases ef : fn (rs.map R.dat) with
      | ok r => rw [ef] at h; exact fun v G' H' g hr => h σ G1 H' g1.g (I1.grow (back g))
      | st => rw [ef] at h; exact h.elim
      | ex c =>
        rw [ef] at h
        simp only at h
        intro G' H' g
        by_cases c1 : c = c0
        · rw [if_pos c1] at h
          refine ⟨by rw [c1]; exact hcat, by rw [c1], ?_⟩
          have := h G1 H' ((I1.grow (back g)).b)
          rw [hC2] at this
          exact this
        · rw [if_neg c1] at h; exact h.elim
end
end Z

/-! ## Y1 -/
set_option Elab.async false
set_option linter.all false
set_option maxRecDepth 100000
set_option maxHeartbeats 2000000
namespace Z
open PySem PySem.Spec PyProof.Rows L2
/-! ### [f(..) for ..], a new list each time, f's exceptions go on -/
def lcLFX (n : Nat) (k : Tg) (t : TD) (e : ED) (ρ : Env) : List PD → Out (List (Ty (n + 1)))
  | [] => .ok []
  | d :: ds => match bindT k d ρ with
    | none => .st
    | some ρ1 => (noX (t ρ1)).bind fun c => if c = true then (e ρ1).bind fun r => match r.asFr n with
        | some y => (lcLFX n k t e ρ ds).bind fun ys => .ok (y :: ys)
        | none => .st
      else lcLFX n k t e ρ ds
def lcFXD (n : Nat) (s : LD) (vs : List Nat) (k : Tg) (t : TD) (e : ED) : ED := fun ρ => (s ρ).bind fun ds => if ds.length ≤ 100000 then (lcLFX n k t e (wipeE ρ vs) ds).bind fun ys => .ok (.fr (n + 1) ys) else .st
section
variable {X : Cx} {E : XK} {C : CM}
theorem sim_lcFX {K : PySem.W.Frag} {wi : TI} {s : LD} {n : Nat} {k : Tg} {tt : TT} {t : TD} {te : TE} {e : ED} {vs : List Nat} (hv : ∀ i ∈ slotsT k, i ∈ vs)
    (sw : ∀ G0 H0 G H σ ρ (Q : It → Hp → Prop), EnvOk K G0 H0 G H σ ρ → (match s ρ with
      | .ok ds => ∀ J G' H', Grow G H G' H' → Walks K J G' ds (fun H2 => Same H' H2) → Q J H'
      | .ex c => ∀ G' H', Grow G H G' H' → E (C c) none H'
      | .st => False) → wi σ H Q)
    (st : SimT K E0 C tt t) (se : SimE K E C te e) : SimE K E C (tLc wi (tgOf K k) tt te vs) (lcFXD n s vs k t e) := by
  intro G0 H0 G H σ ρ Q I h
  unfold lcFXD at h
  refine sw G0 H0 G H σ ρ _ I ?_
  cases es : s ρ with
  | st => rw [es] at h; exact h
  | ex c => rw [es] at h; exact h
  | ok ds =>
    rw [es] at h
    intro J G1 H1 g1 wk D hD
    have I1 := I.grow g1
    have q : OOk K E C G H Q (if ds.length ≤ 100000 then (lcLFX n k t e (wipeE ρ vs) ds).bind fun ys => .ok (.fr (n + 1) ys) else .st) := h
    by_cases hdl : ds.length ≤ 100000
    rotate_left
    · rw [if_neg hdl] at q; exact q.elim
    rw [if_pos hdl] at q
    have fin : ∀ (xs : List (Ty (n + 1))) (rest : Out (List (Ty (n + 1)))), lcLFX n k t e (wipeE ρ vs) ds = rest.bind (fun r => .ok (xs ++ r)) → OOk K E C G H Q ((rest.bind (fun r => .ok (xs ++ r))).bind fun ys => .ok (.fr (n + 1) ys)) := fun xs rest e => by rw [← e]; exact q
    have s1 : Same H1 (hide (upd H1 D (.lst [])) D) := by rw [hide_upd]; exact same_to_hide (Same.refl _) hD
    have gs : Grow G1 H1 G1 (hide (upd H1 D (.lst [])) D) := ⟨Same.refl _, s1, I1.s.trans s1, fun _ _ _ _ h => h⟩
    -- what has been made: trees of their own
    let Mk : Hp → Hp → List (ATy (n + 1)) → Prop := fun G2 H2 xs => (∀ y ∈ xs, ATy.ok K G2 H2 (n + 1) y ∧ ATy.nd (n + 1) y ∧ ∀ a ∈ ATy.adr (n + 1) y, H1 a = none ∧ G2 a = none ∧ a ≠ D) ∧ xs.Pairwise fun y z => ∀ a ∈ ATy.adr (n + 1) y, a ∉ ATy.adr (n + 1) z
    refine ⟨fun i m H2 => ∃ G2 xs rest, Grow G1 H1 G2 (hide H2 D) ∧ G2 D = none ∧ H2 D = some (.lst (xs.map (ATy.val (n + 1)))) ∧ Mk G2 H2 xs ∧ m = ds.length - i ∧ i ≤ ds.length ∧ lcLFX n k t e (wipeE ρ vs) (ds.drop i) = rest ∧ lcLFX n k t e (wipeE ρ vs) ds = rest.bind (fun r => .ok (xs.map (ATy.era (n + 1)) ++ r)) ∧ xs.length ≤ i,
      ⟨ds.length, G1, [], _, gs, I1.s.free hD, upd_same, ⟨(fun _ h => nomatch h), .nil⟩, rfl, Nat.zero_le _, rfl, ?_, Nat.le_refl _⟩, ?_⟩
    · rw [List.drop_zero]; cases lcLFX n k t e (wipeE ρ vs) ds <;> rfl
    rintro i m H2 ⟨G2, xs, rest, g2, nG, hacc, mk, rfl, hi, hr, hy, hxl⟩
    have gu : Grow G2 (hide H2 D) G2 H2 := Grow.unhide g2.s
    have g12 : Grow G1 H1 G2 H2 := g2.trans gu
    have I2 := I1.grow g12
    have mkGrow : ∀ {G3 H3}, Grow G2 H2 G3 H3 → Mk G3 H3 xs := fun {G3 H3} g => ⟨fun y hy => by
      obtain ⟨y1, y2, y3⟩ := mk.1 y hy
      refine ⟨ATy.ok_mono g.g g.h _ _ y1, y2, fun a ha => ⟨(y3 a ha).1, ?_, (y3 a ha).2.2⟩⟩
      obtain ⟨us, hu⟩ := ATy.in_heap _ _ y1 a ha
      exact g.m a _ hu trivial (y3 a ha).2.1, mk.2⟩
    by_cases hlt : i < ds.length
    · have hd : ds[i]? = some ds[i] := List.getElem?_eq_getElem hlt
      obtain ⟨go, yl⟩ := (wk i H2 g12.h).2 _ hd
      refine .inr ⟨go, fun H3 => ∃ G3 xs rest, Grow G1 H1 G3 (hide H3 D) ∧ G3 D = none ∧ H3 D = some (.lst (xs.map (ATy.val (n + 1)))) ∧ Mk G3 H3 xs ∧ lcLFX n k t e (wipeE ρ vs) (ds.drop (i + 1)) = rest ∧ lcLFX n k t e (wipeE ρ vs) ds = rest.bind (fun r => .ok (xs.map (ATy.era (n + 1)) ++ r)) ∧ xs.length ≤ i + 1, fun H3 ⟨G3, xs, rest, a1, a2, a3, a4, a5, a6, a7⟩ => ⟨ds.length - (i + 1), by omega, G3, xs, rest, a1, a2, a3, a4, rfl, hlt, a5, a6, a7⟩, fun v H3 hyl => ?_⟩
      obtain ⟨G3, g3, rd⟩ := yl v H3 hyl G2 g12.g I2.s
      have I3 := I2.grow g3
      refine tgOf_ok k (I3.wipe vs) rd ?_
      have q2 := fin _ _ hy
      rw [List.drop_eq_getElem_cons hlt] at hr
      unfold lcLFX at hr
      cases eb : bindT k ds[i] (wipeE ρ vs) with
      | none => simp only [eb] at hr; rw [← hr] at q2; exact q2.elim
      | some ρ1 =>
        simp only [eb] at hr
        intro σ3 I4 hw
        refine ⟨by rw [hw vs hv, wipe_wipe], ?_⟩
        refine st G0 H0 G3 H3 σ3 ρ1 _ I4 ?_
        cases et : t ρ1 with
        | ex c => simp only [et, noX, Out.bind] at hr; rw [← hr] at q2; exact q2.elim
        | st => simp only [et, noX, Out.bind] at hr; rw [← hr] at q2; exact q2.elim
        | ok b =>
          simp only [et, noX, Out.bind] at hr
          intro G4 H4 g4
          have I5 := I4.grow g4
          have g24 := g3.trans g4
          cases b with
          | false =>
            obtain ⟨r1, r2⟩ := g2.rehide g24 hD hacc trivial nG
            exact ⟨G4, xs, rest, r1, r2, g24.h _ _ hacc, mkGrow g24, hr, hy, by omega⟩
          | true =>
            simp only [if_true] at hr
            refine se G0 H0 G4 H4 σ3 ρ1 _ I5 ?_
            cases ee : e ρ1 with
            | ex c =>
              simp only [ee] at hr
              rw [← hr] at q2
              exact fun G5 H5 g5 => q2 G5 H5 ((g1.trans g12).trans (g24.trans g5))
            | st => simp only [ee] at hr; rw [← hr] at q2; exact q2.elim
            | ok r =>
              simp only [ee] at hr
              cases ea : r.asFr n with
              | none => simp only [ea] at hr; rw [← hr] at q2; exact q2.elim
              | some y =>
                simp only [ea] at hr
                have hy2 : lcLFX n k t e (wipeE ρ vs) ds = (lcLFX n k t e (wipeE ρ vs) (ds.drop (i + 1))).bind (fun r => .ok (xs.map (ATy.era (n + 1)) ++ [y] ++ r)) := by
                  rw [hy, ← hr]
                  cases lcLFX n k t e (wipeE ρ vs) (ds.drop (i + 1)) with
                  | ok ys => simp [Out.bind]
                  | ex c => rfl
                  | st => rfl
                intro v G5 H5 g5 hr5
                have g25 := g24.trans g5
                have efr : r = .fr n y := by
                  cases r with
                  | im d => cases ea
                  | ro m u => cases ea
                  | fr m u =>
                    simp only [R.asFr] at ea
                    split at ea
                    · rename_i hm
                      subst hm
                      cases ea
                      rfl
                    · cases ea
                subst efr
                obtain ⟨z, z1, z2, z3, z4, z5⟩ := hr5
                obtain ⟨r1, r2⟩ := g2.rehide g25 hD hacc trivial nG
                have acc5 := g25.h _ _ hacc
                have acc4 := g24.h _ _ hacc
                have zD : ∀ a ∈ ATy.adr (n + 1) z, a ≠ D := fun a ha q => by
                  have := (z5 a ha).1
                  rw [q, acc4] at this
                  cases this
                obtain ⟨m1, m2⟩ := mkGrow g25
                have s14 : Same H1 H4 := g12.h.trans g24.h
                refine ⟨_, acc5, ?_, G5, xs ++ [z], _, by rw [hide_upd]; exact r1, r2, ?_, ⟨?_, ?_⟩, rfl, ?_, by rw [List.length_append, List.length_singleton]; omega⟩
                · rw [List.length_map]
                  exact lt_line (by omega)
                · rw [upd_same, List.map_append, List.map_singleton, z2]
                · intro w hw
                  rw [List.mem_append, List.mem_singleton] at hw
                  rcases hw with h | h
                  · obtain ⟨w1, w2, w3⟩ := m1 w h
                    exact ⟨ATy.ok_keep (Same.refl _) _ _ (fun a ha => upd_ne (w3 a ha).2.2) w1, w2, w3⟩
                  · subst h
                    exact ⟨ATy.ok_keep (Same.refl _) _ _ (fun a ha => upd_ne (zD a ha)) z3, z4, fun a ha => ⟨s14.free (z5 a ha).1, (z5 a ha).2, zD a ha⟩⟩
                · refine pairwise_snoc m2 fun w hw a ha q => ?_
                  obtain ⟨w1, w2, w3⟩ := (mkGrow g24).1 w hw
                  obtain ⟨us, hu⟩ := ATy.in_heap _ _ w1 a ha
                  rw [(z5 a q).1] at hu
                  cases hu
                · rw [hy2, List.map_append, List.map_singleton, z1]
    · have e2 : i = ds.length := by omega
      refine .inl ⟨(wk i H2 g12.h).1 (by omega), ?_⟩
      have q2 := fin _ _ hy
      rw [e2, List.drop_length] at hr
      rw [← hr] at q2
      have q3 : OOk K E C G H Q (.ok (.fr (n + 1) (xs.map (ATy.era (n + 1))))) := by
        have ea : xs.map (ATy.era (n + 1)) ++ [] = xs.map (ATy.era (n + 1)) := List.append_nil _
        have q4 : OOk K E C G H Q (.ok (.fr (n + 1) (show List (Ty (n + 1)) from xs.map (ATy.era (n + 1)) ++ []))) := q2
        rw [ea] at q4
        exact q4
      have h1 : H D = none := g1.h.free hD
      refine q3 _ G2 H2 (g1.trans g12) ⟨((D, xs) : Addr × List (ATy (n + 1))), rfl, rfl, ⟨hacc, fun y hy => (mk.1 y hy).1⟩, ⟨fun y hy => ⟨(mk.1 y hy).2.1, fun q => ((mk.1 y hy).2.2 D q).2.2 rfl⟩, mk.2⟩, fun a ha => ?_⟩
      have ha' : a ∈ D :: xs.flatMap (ATy.adr (n + 1)) := ha
      simp only [List.mem_cons, List.mem_flatMap] at ha'
      rcases ha' with rfl | ⟨y, hy, ha⟩
      · exact ⟨h1, nG⟩
      · exact ⟨g1.h.free ((mk.1 y hy).2.2 a ha).1, ((mk.1 y hy).2.2 a ha).2.1⟩
/-- the contexts of a block out of which an exception goes -/
abbrev Bk.xE (X : Cx) (scope : Scope) (E : XK) (b : Bk) : Cx := blkE X b.s b.H scope (compEnvC scope b.cl b.C X.env) b.fp E
theorem passB {scope : Scope} {b : Bk} : Passes (L2N.CX X.prog X.w) (b.xE X scope E) E := fun pins σ H s e s' I c => ⟨pins, σ, H, s, I.unwish, c⟩
theorem blk_eR {scope : Scope} {e : Expr} {d : ED} (h : ∀ b : Bk, SE (b.xE X scope E) E C e d) : ∃ te, (∀ b : Bk, PE (b.xE X scope E) e te) ∧ SimE X.K E C te d := by
  let te : Bk → TE := fun b => (h b).p.choose
  have h1 : ∀ b, PE (b.xE X scope E) e (te b) := fun b => (h b).p.choose_spec.1
  have h2 : ∀ b, SimE X.K E C (te b) d := fun b => (h b).p.choose_spec.2
  refine ⟨fun σ H Q => ∀ b, te b σ H Q, fun b => ⟨fun pins s σ H Q I q => (h1 b).run pins s σ H Q I (q b)⟩, fun G0 H0 G H σ ρ Q I q b => h2 b G0 H0 G H σ ρ Q I q⟩
theorem ss_asgLcR {y : Str} {py : Pos} {elt tg iter : Expr} {ifs : List Expr} {scope : Scope} {own : List (Str × Nat)} {pos spos : Pos} {s : LD} {k : Tg} {t : TD} {e : ED} (n i : Nat) (hc : X.calm = true) (hN : X.N.Nodup) (hsk : X.stack = X.env :: X.outer) (hfl : X.env.frame = some X.env.locals) (tk : L2N.Takes X fun cls d _ H => E cls d H) (hyl : X.env.scope.names.lookup y = some .local)
    (hsw : swapsWith (.ListComp elt [⟨tg, iter, ifs, 0⟩] scope pos) (some (.Name y py)) spos.line X.env = pure true) (hi : SJ X E C tg iter s) (ok : BlkOk X.N X.env.scope scope own) (hv : ∀ i ∈ slotsT k, i ∈ own.map (·.2))
    (hg : ∀ b : Bk, SG (b.x X scope) tg k) (ht : ∀ b : Bk, STs (b.x X scope) E0 C ifs t) (he : ∀ b : Bk, SE (b.xE X scope E) E C elt e) (hy : X.N[i]? = some y := by rfl) (hs : ∀ x, foldedSetIterable iter X.env x = pure x := by intro _; rfl) :
    SS X E C (.Assign [.Name y py] (.ListComp elt [⟨tg, iter, ifs, 0⟩] scope pos) spos) (asgD i (lcFXD n s (own.map (·.2)) k t e)) := by
  obtain ⟨wi, pw, sw⟩ := hi
  obtain ⟨te, pe, se⟩ := blk_eR he
  obtain ⟨tt, pt, st⟩ := blk_t ht
  exact ⟨_, ps_setLcR hc hN hsk hfl tk hy hyl hsw pw ok (fun s H C cl fp => (hg ⟨s, H, C, cl, fp⟩).p) (fun s H C cl fp => pt ⟨s, H, C, cl, fp⟩) (fun s H C cl fp => pe ⟨s, H, C, cl, fp⟩) hs, sim_asg i (sim_lcFX hv sw st se)⟩
end
end Z

/-! ## Y2 -/
set_option Elab.async false
set_option linter.all false
set_option maxRecDepth 100000
set_option maxHeartbeats 2000000
namespace Z
open PySem PySem.Spec PyProof.Rows L2
/-! ### for y in x: (for z in y: if t: return ..); y.append(d): x an owned list of owned lists, t never true -/
def Tn (ρ : Env) (i j c : Nat) (e : Ent) : Env := (((ρ.set c .no).set j .no).set i .no).set c e
open Classical in
noncomputable def appAllC (i j c : Nat) (t : TD) (d : PD) : SD := fun ρ => match ρ[i]? with
  | some (.ow 1 l) => if (∀ u ∈ (show List (List PD) from l), u.length ≤ 1000 ∧ ∀ x ∈ u, t (Tn ρ i j c (.im x)) = .ok false) ∧ (i ≠ j ∧ i ≠ c ∧ j ≠ c) ∧ j < ρ.length ∧ c < ρ.length then .nx (((ρ.set c .no).set j .no).set i (.ow 1 ((show List (List PD) from l).map fun u => u ++ [d]))) else .st
  | _ => .st
theorem EnvOk.outer2 {K : PySem.W.Frag} {G0 H0 G H : Hp} {σ : L2.St} {ρ : Env} (I : EnvOk K G0 H0 G H σ ρ) {i : Nat} {t : List (List PD)} (hi : ρ[i]? = some (.ow 1 t)) : ∃ A vs, σ.getD i none = some (.ref A) ∧ H A = some (.lst vs) ∧ vs.length = t.length ∧ ∀ (k : Nat) (u : List PD), t[k]? = some u → ∃ a us, vs[k]? = some (.ref a) ∧ H a = some (.lst us) ∧ RpA K G us u := by
  obtain ⟨len, b, w, hw⟩ := I
  obtain ⟨x, x1, x2, x3, x4, x5⟩ := hw i _ hi
  obtain ⟨A, ys⟩ : Addr × List (ATy 1) := x
  let f : ATy 1 → List PD := fun y => (y.2 : List (V × PD)).map (fun z => z.2)
  have et : List.map f ys = t := x2
  refine ⟨A, ys.map (ATy.val 1), x1, x3.1, by rw [List.length_map, ← et, List.length_map], fun k u hk => ?_⟩
  rw [← et, List.getElem?_map] at hk
  obtain ⟨y, hy, ey⟩ := Option.map_eq_some_iff.mp hk
  have m := x3.2 y (List.mem_of_getElem? hy)
  obtain ⟨a, zs⟩ : Addr × List (V × PD) := y
  refine ⟨a, zs.map (fun z => z.1), by rw [List.getElem?_map, hy]; rfl, (show H a = some (.lst (zs.map (fun z : V × PD => z.1))) from m.1), ?_⟩
  have e2 : zs.map (fun z => z.2) = u := ey
  have rp : ∀ (l : List (V × PD)), (∀ y ∈ l, Rp K G y.1 y.2) → RpA K G (l.map (fun z => z.1)) (l.map (fun z => z.2)) := by
    intro l
    induction l with
    | nil => intro _; exact .nil
    | cons z l ih => intro h; exact .cons (h z List.mem_cons_self) (ih fun y hy => h y (List.mem_cons_of_mem _ hy))
  rw [← e2]
  exact rp zs m.2
section
variable {X : Cx} {E : XK} {C : CM}
theorem ss_appAllC (i j c : Nat) {x y z : Str} {cond : Expr} {ret : List Stmt} {t : TD} {r : SD} {e : Expr} {de : ED} {d : PD} {xpos ypos ypos2 ypos3 zpos apos cpos epos ipos fpos pos : Pos} (hp : PassesOwn (model X.prog X.w) X.A X.env X.xe) (hc : X.calm = true) (hN : X.N.Nodup) (hx : X.N[i]? = some x) (hy : X.N[j]? = some y) (hz : X.N[c]? = some z)
    (hlx : Vis X.env.scope x) (hly : Vis X.env.scope y) (hloc : Loc X.env.scope y) (hlz : Loc X.env.scope z) (hf : X.fn y = true ∨ X.env.scope.names.lookup y = some .local) (hfz : X.fn z = true ∨ X.env.scope.names.lookup z = some .local) (hdx : (x == ("__debug__" : Str)) = false) (hdy : (y == ("__debug__" : Str)) = false) (hcx : (x == ("__classdict__" : Str)) = false) (hcy : (y == ("__classdict__" : Str)) = false)
    (ht : ST X E C cond t) (hret : SB X E C ret r) (he : SE X E C e de) (hd : ∀ ρ, de ρ = .ok (.im d)) (hij : i ≠ j)
    (hst : starEach [e] X.env = (false, eval e X.env) :: starEach [] X.env := by rfl)
    (hpp : ∀ to t, PE X (.Name y ypos2) to → PA X [e] t → PE X (.Call (.Attribute (.Name y ypos2) "append" apos) [e] [] cpos) (tBM X.K "list" rAppend to t))
    (hs : swapsWith (.Call (.Attribute (.Name y ypos2) "append" apos) [e] [] cpos) none epos.line X.env = pure false := by rfl)
    (hfs : ∀ z, foldedSetIterable (.Name x xpos) X.env z = pure z := by intro _; rfl) (hfs2 : ∀ z, foldedSetIterable (.Name y ypos3) X.env z = pure z := by intro _; rfl) :
    SS X E C (.For (.Name y ypos) (.Name x xpos) [.For (.Name z zpos) (.Name y ypos3) [.If cond ret [] ipos] [] fpos, .Expr (.Call (.Attribute (.Name y ypos2) "append" apos) [e] [] cpos) epos] [] pos) (appAllC i j c t d) := by
  obtain ⟨te, pe, se⟩ := he
  obtain ⟨tt, pt, st⟩ := ht
  obtain ⟨tr, pr, _⟩ := hret
  have pv := pe_var (X := X) (pos := xpos) hx hlx hdx hcx
  have pw := pe_var (X := X) (pos := ypos2) hy hly hdy hcy
  have pw3 := pe_var (X := X) (pos := ypos3) hy hly hdy hcy
  refine ⟨_, ps_for hp hc (pi_list pv) (pg_name hN hy hloc hf) (pss_cons (ps_for hp hc (pi_list pw3) (pg_name hN hz hlz hfz) (pss_one (ps_if pt pr pss_nil)) hfs2) (pss_one (ps_expr (hpp _ _ pw (pa_cons pe pa_nil hst)) hs))) hfs, fun G0 H0 G H σ ρ D I h => ?_⟩
  unfold appAllC at h
  split at h
  · rename_i l hi
    split at h
    · rename_i hcnd
      obtain ⟨hall, ⟨_, hic, hjc⟩, hjl, hcl⟩ := hcnd
      have I0 := (I.lose c).lose j
      have hi0 : ((ρ.set c .no).set j .no)[i]? = some (.ow 1 l) := by rw [List.getElem?_set_ne (Ne.symm hij), List.getElem?_set_ne (Ne.symm hic)]; exact hi
      obtain ⟨A, vs0, q1, q2, q3, _⟩ := I0.outer2 hi0
      obtain ⟨T, eT⟩ : ∃ T : List (List PD), T = l := ⟨l, rfl⟩
      have cT : ∀ u ∈ T, u.length ≤ 1000 := by rw [eT]; exact fun u hu => (hall u hu).1
      have tT : ∀ u ∈ T, ∀ x ∈ u, t (Tn ρ i j c (.im x)) = .ok false := by rw [eT]; exact fun u hu => (hall u hu).2
      have il : i < ρ.length := (List.getElem?_eq_some_iff.mp hi).1
      have rset : ∀ T' : List (List PD), (((ρ.set c .no).set j .no).set i (.ow 1 T'))[i]? = some (.ow 1 T') := fun T' => List.getElem?_set_self (by rw [List.length_set, List.length_set]; exact il)
      have rno : ∀ T' : List (List PD), (((ρ.set c .no).set j .no).set i (.ow 1 T'))[j]? = some .no ∨ (((ρ.set c .no).set j .no).set i (.ow 1 T'))[j]? = none := fun T' => by
        rw [List.getElem?_set_ne hij]
        exact .inl (List.getElem?_set_self (by rw [List.length_set]; exact hjl))
      have rnoc : ∀ T' : List (List PD), (((ρ.set c .no).set j .no).set i (.ow 1 T'))[c]? = some .no ∨ (((ρ.set c .no).set j .no).set i (.ow 1 T'))[c]? = none := fun T' => by
        rw [List.getElem?_set_ne hic, List.getElem?_set_ne hjc]
        exact .inl (List.getElem?_set_self hcl)
      have e0 : ((ρ.set c .no).set j .no).set i (.ow 1 (stepT d 0 T)) = (ρ.set c .no).set j .no := by
        rw [stepT_zero, eT]
        apply List.ext_getElem?
        intro k
        by_cases ck : i = k
        · subst ck
          rw [List.getElem?_set_self (by rw [List.length_set, List.length_set]; exact il)]
          exact hi0.symm
        · rw [List.getElem?_set_ne ck]
      refine ⟨(.ref A), getD_some q1, A, rfl, ⟨vs0, SqL.of q2⟩, ?_⟩
      refine ⟨fun k m σ' H' => ∃ G', EnvOk X.K G0 H0 G' H' σ' (((ρ.set c .no).set j .no).set i (.ow 1 (stepT d k T))) ∧ Same G G' ∧ σ'.getD i none = some (.ref A) ∧ m = T.length - k ∧ k ≤ T.length, ⟨T.length, G, by rw [e0]; exact I0, Same.refl _, q1, rfl, Nat.zero_le _⟩, ?_⟩
      rintro k m σ' H' ⟨G', I', s', qA, rfl, hk⟩
      obtain ⟨A', vs, w1, w2, w3, w4⟩ := I'.outer2 (rset _)
      have eA : A' = A := by
        rw [qA] at w1
        cases w1
        rfl
      subst eA
      rw [stepT_len d k T hk] at w3
      by_cases hlt : k < T.length
      · obtain ⟨a, us, a1, a2, a3⟩ := w4 k T[k] (stepT_at d k T hlt)
        refine .inr ⟨⟨vs, .ref a, SqL.of w2, a1⟩, fun σ2 H2 => ∃ G', EnvOk X.K G0 H0 G' H2 σ2 (((ρ.set c .no).set j .no).set i (.ow 1 (stepT d (k + 1) T))) ∧ Same G G' ∧ σ2.getD i none = some (.ref A'), fun σ2 H2 ⟨G2, b1, b2, b3⟩ => ⟨T.length - (k + 1), by omega, G2, b1, b2, b3, rfl, hlt⟩, ?_⟩
        rintro v H2 ⟨rfl, hy2⟩
        have ev := hy2 vs (SqL.of w2)
        rw [a1] at ev
        cases ev
        have I2 := I'.blur j (some (.ref a)) (rno _)
        have jl : j < σ'.length := by
          rw [I'.len, List.length_set, List.length_set, List.length_set]
          exact hjl
        have gne : ∀ (τ : L2.St) (p q : Nat) (o : Option V), p ≠ q → (τ.set q o).getD p none = τ.getD p none := fun τ p q o hpq => by
          rw [List.getD_eq_getElem?_getD, List.getElem?_set_ne (Ne.symm hpq), ← List.getD_eq_getElem?_getD]
        have qi : (σ'.set j (some (.ref a))).getD i none = some (.ref A') := (gne _ _ _ _ hij).trans qA
        have qj : (σ'.set j (some (.ref a))).getD j none = some (.ref a) := by
          rw [List.getD_eq_getElem?_getD, List.getElem?_set_self jl] <;> rfl
        -- the look at each thing
        refine ⟨.ref a, getD_some qj, a, rfl, ⟨us, SqL.of a2⟩, ?_⟩
        refine ⟨fun q m τ H3 => ∃ G3, EnvOk X.K G0 H0 G3 H3 τ (((ρ.set c .no).set j .no).set i (.ow 1 (stepT d k T))) ∧ Same G' G3 ∧ Same H2 H3 ∧ τ.getD i none = some (.ref A') ∧ τ.getD j none = some (.ref a) ∧ m = us.length - q ∧ q ≤ us.length, ⟨us.length, G', I2, Same.refl _, Same.refl _, qi, qj, rfl, Nat.zero_le _⟩, ?_⟩
        rintro q m τ H3 ⟨G3, I3, s3, sH3, qi3, qj3, rfl, hq⟩
        by_cases hqt : q < us.length
        · refine .inr ⟨⟨us, us[q], SqL.of (sH3 _ _ a2), List.getElem?_eq_getElem hqt⟩, fun τ2 H4 => ∃ G3, EnvOk X.K G0 H0 G3 H4 τ2 (((ρ.set c .no).set j .no).set i (.ow 1 (stepT d k T))) ∧ Same G' G3 ∧ Same H2 H4 ∧ τ2.getD i none = some (.ref A') ∧ τ2.getD j none = some (.ref a), fun τ2 H4 ⟨G4, b1, b2, b3, b4, b5⟩ => ⟨us.length - (q + 1), by omega, G4, b1, b2, b3, b4, b5, rfl, hqt⟩, ?_⟩
          rintro v H4 ⟨rfl, hy4⟩
          have ev := hy4 us (SqL.of (sH3 _ _ a2))
          rw [List.getElem?_eq_getElem hqt] at ev
          cases ev
          obtain ⟨w, hw, rw_⟩ := a3.get (List.getElem?_eq_getElem hqt)
          have hmem : w ∈ T[k] := List.mem_of_getElem? hw
          have I4 := I3.blur c (some us[q]) (rnoc _)
          have It := (I3.lose i).setIm c (rw_.up s3)
          rw [List.set_set] at It
          refine st G0 H0 G3 H4 _ _ _ It ?_
          have eq1 : t ((((ρ.set c .no).set j .no).set i .no).set c (.im w)) = .ok false := tT _ (List.getElem_mem hlt) w hmem
          rw [eq1]
          intro G5 H5 g5
          exact ⟨G5, I4.grow g5, s3.trans g5.g, sH3.trans g5.h, (gne _ _ _ _ hic).trans qi3, (gne _ _ _ _ hjc).trans qj3⟩
        · refine .inl ⟨⟨us, SqL.of (sH3 _ _ a2), by omega⟩, ?_⟩
          have w2' := sH3 _ _ w2
          have a2' := sH3 _ _ a2
          refine ⟨(.ref a), getD_some qj3, .inl ⟨rfl, us, SqL.of a2'⟩, ?_⟩
          refine se G0 H0 G3 H3 _ _ _ I3 ?_
          rw [hd]
          intro z G4 H4 g4 r4
          have I4 := I3.grow g4
          have em : modP (apF d) 1 (stepT d k T) [k] = some (stepT d (k + 1) T) := by
            have m0 : modP (apF d) 0 T[k] [] = some (T[k] ++ [d]) := if_pos (Nat.le_trans (cT _ (List.getElem_mem hlt)) (by decide))
            have m1 := modP_cons0 (apF d) 0 (stepT d k T) k [] T[k] (stepT_at d k T hlt)
            rw [m0] at m1
            refine m1.trans ?_
            show some ((stepT d k T).set k (T[k] ++ [d])) = _
            rw [stepT_set d k T hlt]
          obtain ⟨a', xs, ea, ha, hl, I5⟩ := app_step (r := .im d) (f := apF d) (p := [k]) (v := .ref a) I4.r (rset _) r4 (F := []) (fun m u e => by cases e) rfl em (fun v0 e0 => by
            rw [qi3] at e0
            cases e0
            show (match H4 A' with
              | some (.lst vs) => match vs[k]? with
                | some u => pathV H4 u []
                | none => none
              | _ => none) = some (.ref a)
            rw [g4.h _ _ w2']
            simp only [a1]
            rfl)
          cases ea
          refine ⟨a, xs, z, rfl, rfl, ha, hl, ?_⟩
          refine ⟨G4, ?_, (s'.trans s3).trans g4.g, qi3⟩
          have : (((ρ.set c .no).set j .no).set i (.ow 1 (stepT d k T))).set i (.ow 1 (stepT d (k + 1) T)) = ((ρ.set c .no).set j .no).set i (.ow 1 (stepT d (k + 1) T)) := List.set_set _
          rw [← this]
          exact I5
      · have ek : k = T.length := by omega
        subst ek
        refine .inl ⟨⟨vs, SqL.of w2, by omega⟩, ?_⟩
        rw [stepT_all, eT] at I'
        exact h σ' G' H' s' I'
    · exact h.elim
  · exact h.elim
end
end Z

/-! ## M1 -/
set_option Elab.async false
set_option linter.all false
set_option maxRecDepth 100000
set_option maxHeartbeats 1000000
namespace Z
open PySem PySem.Spec PyProof.Rows L2
@[simp] theorem intsOf_map_ (ns : List Int) : intsOf (ns.map PyData.int) = some ns := intsOf_map ns
@[simp] theorem boolsOf_map_ (ns : List Bool) : boolsOf (ns.map PyData.bool) = some ns := boolsOf_map ns
/-! ### lists of ints, lists of such -/
@[simp] abbrev L1 (ns : List Int) : PD := .list (ns.map PyData.int)
@[simp] abbrev LL (rs : List (List Int)) : PD := .list (rs.map fun ns => L1 ns)
@[simp] abbrev T1 (ns : List Int) : List PD := ns.map PyData.int
@[simp] abbrev T2 (rs : List (List Int)) : List (List PD) := @List.map (List Int) (List PD) (fun ns => ns.map PyData.int) rs
@[simp] abbrev Sc (ns : List Int) : PD := .dict [(.none, .list (ns.map PyData.int))]
@[simp] theorem dat_two (l : List (List PD)) : Ty.dat 2 l = .list (l.map fun u => .list u) := by
  show PyData.list (List.map (Ty.dat 1) l) = _
  congr 1
  exact List.map_congr_left fun u _ => by
    show PyData.list (List.map (Ty.dat 0) u) = _
    congr 1
    exact List.map_id _
@[simp] theorem dat_T2 (rs : List (List Int)) : Ty.dat 2 (T2 rs) = LL rs := by
  rw [dat_two, List.map_map]
  rfl
@[simp] theorem dat_one (l : List PD) : Ty.dat 1 l = .list l := by
  show PyData.list (List.map (Ty.dat 0) l) = _
  congr 1
  exact List.map_id _
@[simp] theorem dat_map {α : Type} (g : α → PD) (xs : List α) : Ty.dat 1 (@List.map α PD g xs) = .list (xs.map g) := dat_one _
@[simp] theorem dat_int (xs : List Int) : Ty.dat 1 (@List.map Int (Ty 0) PyData.int xs) = L1 xs := dat_one _
@[simp] theorem boolsOf_mapf {α : Type} (g : α → Bool) (xs : List α) : boolsOf (xs.map fun v => PyData.bool (g v)) = some (xs.map g) := by
  rw [← boolsOf_map, List.map_map]; rfl
@[simp] theorem intsOf_mapf {α : Type} (g : α → Int) (xs : List α) : intsOf (xs.map fun v => PyData.int (g v)) = some (xs.map g) := by
  rw [← intsOf_map, List.map_map]; rfl
@[simp] theorem fcomp {α β γ : Type} (f : β → γ) (g : α → β) : f ∘ g = fun x => f (g x) := rfl
@[simp] theorem lfv_1 (l : List PD) : Ty.lfv 1 l = l.all lf := rfl
@[simp] theorem lfv_2 (l : List (List PD)) : Ty.lfv 2 l = l.all fun u => u.all lf := rfl
@[simp] theorem lf_int (i : Int) : lf (.int i) = true := by simp [lf]
@[simp] theorem lf_bool (i : Bool) : lf (.bool i) = true := by simp [lf]
@[simp] theorem lf_none : lf .none = true := by simp [lf]
/-! ### results, read -/
@[simp] theorem e_dat1 (d : PD) : R.dat (.im d) = d := rfl
@[simp] theorem e_dat2 (n : Nat) (t : Ty (n + 1)) : R.dat (.ro n t) = Ty.dat (n + 1) t := rfl
@[simp] theorem e_dat3 (n : Nat) (t : Ty (n + 1)) : R.dat (.fr n t) = Ty.dat (n + 1) t := rfl
@[simp] theorem e_fz1 (d : PD) : R.fz (.im d) = .im d := rfl
@[simp] theorem e_fz2 (n : Nat) (t : Ty (n + 1)) : R.fz (.ro n t) = .ro n t := rfl
@[simp] theorem e_fz3 (n : Nat) (t : Ty (n + 1)) : R.fz (.fr n t) = .im (Ty.dat (n + 1) t) := rfl
@[simp] theorem e_im1 (d : PD) : R.isIm (.im d) = true := rfl
@[simp] theorem e_im2 (n : Nat) (t : Ty (n + 1)) : R.isIm (.ro n t) = false := rfl
@[simp] theorem e_im3 (n : Nat) (t : Ty (n + 1)) : R.isIm (.fr n t) = false := rfl
@[simp] theorem e_fl1 (d : PD) : R.flat (.im d) = lf d := rfl
@[simp] theorem e_fl2 (n : Nat) (t : Ty (n + 1)) : R.flat (.ro n t) = false := rfl
@[simp] theorem e_fl3 (n : Nat) (t : Ty (n + 1)) : R.flat (.fr n t) = Ty.lfv (n + 1) t := rfl
@[simp] theorem e_en1 (d : PD) : entOf (.im d) = some (.im d) := rfl
@[simp] theorem e_en2 (n : Nat) (t : Ty (n + 1)) : entOf (.ro n t) = none := rfl
@[simp] theorem e_en3 (n : Nat) (t : Ty (n + 1)) : entOf (.fr n t) = some (.ow n t) := rfl
@[simp] theorem e_ims1 : ims [] = some [] := rfl
@[simp] theorem e_ims2 (d : PD) (rs : List R) : ims (.im d :: rs) = (ims rs).map (d :: ·) := rfl
@[simp] theorem e_ki1 (l : List PD) : kids (.im (.list l)) = some l := rfl
@[simp] theorem e_ks1 (l : List PD) : kidsS (.im (.list l)) = some l := rfl
@[simp] theorem e_ks2 (l : List PD) : kidsS (.im (.dict [(.none, .list l)])) = some l := rfl
@[simp] theorem e_kt1 (l : List PD) : kidsT (.im (.list l)) = some l := rfl
@[simp] theorem e_kt2 (l : List PD) : kidsT (.im (.dict [(.none, .list l)])) = some l := rfl
@[simp] theorem e_kt3 (l : List PD) : kidsT (.im (.tuple l)) = some l := rfl
@[simp] theorem e_kt4 (l : List PD) : kidsT (.ro 0 l) = some l := rfl
@[simp] theorem kids_ro (l : List PD) : kids (.ro 0 l) = some l := rfl
@[simp] theorem kidsS_ro (l : List PD) : kidsS (.ro 0 l) = some l := rfl
@[simp] theorem ixF_1 (l : List PD) (i : Int) : ixF (.im (.list l)) i = (atI l i).map .im := rfl
@[simp] theorem ixF_2 (l : List PD) (i : Int) : ixF (.im (.tuple l)) i = (atI l i).map .im := rfl
@[simp] theorem ixF_3 (l : List PD) (i : Int) : ixF (.im (.dict [(.none, .list l)])) i = (atI l i).map .im := rfl
@[simp] theorem ixF_ro0 (l : List PD) (i : Int) : ixF (.ro 0 l) i = (atI l i).map .im := rfl
@[simp] theorem ixF_ro1 (l : List (List PD)) (i : Int) : ixF (.ro 1 l) i = (atI l i).map fun (u : List PD) => R.ro 0 u := rfl
@[simp] theorem e_sub (i j : Int) : subI (.int i) (.int j) = some (.int (i - j)) := rfl
@[simp] theorem e_mod (i j : Int) : modI (.int i) (.int j) = if 0 < j then some (.int (i % j)) else none := rfl
@[simp] theorem e_div (i j : Int) : divI (.int i) (.int j) = @ite _ (0 < j ∧ j < 1073741824) (Classical.propDecidable _) (some (.int (i / j))) none := rfl
@[simp] theorem e_lt (i j : Int) : ltI (.int i) (.int j) = some (.bool (decide (i < j))) := rfl
@[simp] theorem e_le (i j : Int) : leI (.int i) (.int j) = some (.bool (decide (i ≤ j))) := rfl
@[simp] theorem e_gt (i j : Int) : gtI (.int i) (.int j) = some (.bool (decide (j < i))) := rfl
@[simp] theorem e_ge (i j : Int) : geI (.int i) (.int j) = some (.bool (decide (j ≤ i))) := rfl
@[simp] theorem e_neg (i : Int) : negI (.int i) = some (.int (-i)) := rfl
@[simp] theorem e_isNF (d : PD) : isNF d .none = some (.bool (isN d)) := rfl
@[simp] theorem e_nNF (d : PD) : nNF d .none = some (.bool (!isN d)) := rfl
@[simp] theorem e_isN1 : isN .none = true := rfl
@[simp] theorem e_isN2 (i : Int) : isN (.int i) = false := rfl
@[simp] theorem e_isN3 (i : Bool) : isN (.bool i) = false := rfl
@[simp] theorem e_isN4 (i : List PD) : isN (.list i) = false := rfl
@[simp] theorem e_isN5 (i : List PD) : isN (.tuple i) = false := rfl
@[simp] theorem e_len1 (l : List PD) : lenF [.list l] = some (.int (l.length : Nat)) := rfl
@[simp] theorem e_len2 (l : List PD) : lenF [.tuple l] = some (.int (l.length : Nat)) := rfl
@[simp] theorem e_len3 (l : List PD) : lenF [.dict [(.none, .list l)]] = some (.int (l.length : Nat)) := rfl
@[simp] theorem e_ofI (f : List Int → Option PD) (l : List PD) : ofInts f [.list l] = (intsOf l).bind f := rfl
@[simp] theorem e_ofB (f : List Bool → Option PD) (l : List PD) : ofBools f [.list l] = (boolsOf l).bind f := rfl
@[simp] theorem e_max2 (i j : Int) : max2F [.int i, .int j] = some (.int (max i j)) := by
  have : (if j > i then j else i) = max i j := by split <;> omega
  rw [← this]
  rfl
@[simp] theorem e_min2 (i j : Int) : min2F [.int i, .int j] = some (.int (min i j)) := by
  have : (if j < i then j else i) = min i j := by split <;> omega
  rw [← this]
  rfl
@[simp] theorem e_int1 (i : Int) : intF [.int i] = some (.int i) := rfl
@[simp] theorem e_int2 (b : Bool) : intF [.bool b] = some (.int (if b then 1 else 0)) := rfl
@[simp] theorem e_ty1 : tyP .none = "NoneType" := rfl
@[simp] theorem e_ty2 (b : Bool) : tyP (.bool b) = "bool" := rfl
@[simp] theorem e_ty3 (b : Int) : tyP (.int b) = "int" := rfl
@[simp] theorem e_ty4 (b : Str) : tyP (.str b) = "str" := rfl
@[simp] theorem e_ty5 (b : List PD) : tyP (.list b) = "list" := rfl
@[simp] theorem e_ty6 (b : List PD) : tyP (.tuple b) = "tuple" := rfl
@[simp] theorem e_ty7 : tyP (.dict []) = "dict" := rfl
@[simp] theorem e_isi1 (T : String) : isiF T .none = (kitB "NoneType" T).map PyData.bool := rfl
@[simp] theorem e_isi2 (T : String) (b : Bool) : isiF T (.bool b) = (kitB "bool" T).map PyData.bool := rfl
@[simp] theorem e_isi3 (T : String) (b : Int) : isiF T (.int b) = (kitB "int" T).map PyData.bool := rfl
@[simp] theorem e_isi4 (T : String) (b : Str) : isiF T (.str b) = (kitB "str" T).map PyData.bool := rfl
@[simp] theorem e_isi5 (T : String) (b : List PD) : isiF T (.list b) = (kitB "list" T).map PyData.bool := rfl
@[simp] theorem e_isi6 (T : String) (b : List PD) : isiF T (.tuple b) = (kitB "tuple" T).map PyData.bool := rfl
theorem dat_three (l : List (List (List PD))) : Ty.dat 3 l = .list (l.map fun u => .list (u.map fun w => .list w)) := by
  show PyData.list (List.map (Ty.dat 2) l) = _
  congr 1
  exact List.map_congr_left fun u _ => dat_two u
/-- reading an entry -/
def varE : Option Ent → Out R
  | some (.im d) => .ok (.im d)
  | some (.ow n t) => .ok (.ro n t)
  | _ => .st
@[simp] theorem un_var (i : Nat) (ρ : Env) : varD i ρ = varE ρ[i]? := rfl
@[simp] theorem e_vdi (d : PD) : varE (some (.im d)) = .ok (.im d) := rfl
/-- giving an entry -/
def retE : Option Ent → SO
  | some (.im d) => .rt (.im d)
  | some (.ow n t) => .rt (.fr n t)
  | _ => .st
@[simp] theorem un_retV (i : Nat) (ρ : Env) : retVD i ρ = retE ρ[i]? := rfl
@[simp] theorem e_rvi (d : PD) : retE (some (.im d)) = .rt (.im d) := rfl
@[simp] theorem e_datr0 (l : List PD) : R.dat (.ro 0 l) = PyData.list l := dat_one l
@[simp] theorem e_datf0 (l : List PD) : R.dat (.fr 0 l) = PyData.list l := dat_one l
@[simp] theorem e_fzr0 (l : List PD) : R.fz (.ro 0 l) = .ro 0 l := rfl
@[simp] theorem e_fzf0 (l : List PD) : R.fz (.fr 0 l) = .im (PyData.list l) := by
  rw [← dat_one l]
  rfl
@[simp] theorem e_imr0 (l : List PD) : R.isIm (.ro 0 l) = false := rfl
@[simp] theorem e_imf0 (l : List PD) : R.isIm (.fr 0 l) = false := rfl
@[simp] theorem e_flf0 (l : List PD) : R.flat (.fr 0 l) = (l.all lf) := rfl
@[simp] theorem e_enf0 (l : List PD) : entOf (.fr 0 l) = some (.ow 0 l) := rfl
@[simp] theorem e_vd0 (i : Nat) (l : List PD) : varE (some (.ow 0 l)) = .ok (.ro 0 l) := rfl
@[simp] theorem e_rv0 (i : Nat) (l : List PD) : retE (some (.ow 0 l)) = .rt (.fr 0 l) := rfl
@[simp] theorem e_datr1 (l : List (List PD)) : R.dat (.ro 1 l) = PyData.list (l.map fun u => PyData.list u) := dat_two l
@[simp] theorem e_datf1 (l : List (List PD)) : R.dat (.fr 1 l) = PyData.list (l.map fun u => PyData.list u) := dat_two l
@[simp] theorem e_fzr1 (l : List (List PD)) : R.fz (.ro 1 l) = .ro 1 l := rfl
@[simp] theorem e_fzf1 (l : List (List PD)) : R.fz (.fr 1 l) = .im (PyData.list (l.map fun u => PyData.list u)) := by
  rw [← dat_two l]
  rfl
@[simp] theorem e_imr1 (l : List (List PD)) : R.isIm (.ro 1 l) = false := rfl
@[simp] theorem e_imf1 (l : List (List PD)) : R.isIm (.fr 1 l) = false := rfl
@[simp] theorem e_flf1 (l : List (List PD)) : R.flat (.fr 1 l) = (l.all fun u => u.all lf) := rfl
@[simp] theorem e_enf1 (l : List (List PD)) : entOf (.fr 1 l) = some (.ow 1 l) := rfl
@[simp] theorem e_vd1 (i : Nat) (l : List (List PD)) : varE (some (.ow 1 l)) = .ok (.ro 1 l) := rfl
@[simp] theorem e_rv1 (i : Nat) (l : List (List PD)) : retE (some (.ow 1 l)) = .rt (.fr 1 l) := rfl
@[simp] theorem e_datr2 (l : List (List (List PD))) : R.dat (.ro 2 l) = PyData.list (l.map fun u => PyData.list (u.map fun w => PyData.list w)) := dat_three l
@[simp] theorem e_datf2 (l : List (List (List PD))) : R.dat (.fr 2 l) = PyData.list (l.map fun u => PyData.list (u.map fun w => PyData.list w)) := dat_three l
@[simp] theorem e_fzr2 (l : List (List (List PD))) : R.fz (.ro 2 l) = .ro 2 l := rfl
@[simp] theorem e_fzf2 (l : List (List (List PD))) : R.fz (.fr 2 l) = .im (PyData.list (l.map fun u => PyData.list (u.map fun w => PyData.list w))) := by
  rw [← dat_three l]
  rfl
@[simp] theorem e_imr2 (l : List (List (List PD))) : R.isIm (.ro 2 l) = false := rfl
@[simp] theorem e_imf2 (l : List (List (List PD))) : R.isIm (.fr 2 l) = false := rfl
@[simp] theorem e_flf2 (l : List (List (List PD))) : R.flat (.fr 2 l) = (l.all fun u => u.all fun w => w.all lf) := rfl
@[simp] theorem e_enf2 (l : List (List (List PD))) : entOf (.fr 2 l) = some (.ow 2 l) := rfl
@[simp] theorem e_vd2 (i : Nat) (l : List (List (List PD))) : varE (some (.ow 2 l)) = .ok (.ro 2 l) := rfl
@[simp] theorem e_rv2 (i : Nat) (l : List (List (List PD))) : retE (some (.ow 2 l)) = .rt (.fr 2 l) := rfl
/-! ### equal, shaped -/
theorem noDs_ints (ns : List Int) : noDs (ns.map PyData.int) = true := by
  induction ns with
  | nil => rfl
  | cons n ns ih => simp [noDs, noD, ih]
theorem canLay_ints (ns : List Int) : PyData.canLayAll0 (ns.map PyData.int) = true := by
  induction ns with
  | nil => rfl
  | cons n ns ih => simp [PyData.canLayAll0, PyData.canLay0, ih]
theorem depth_ints (ns : List Int) : PyData.depthAll (ns.map PyData.int) = 0 := by
  induction ns with
  | nil => rfl
  | cons n ns ih => simp [PyData.depthAll, PyData.depth, ih]
theorem shp_int (i : Int) : shp (.int i) = true := by simp [shp, noD, SeqAt.shaped, PyData.canLay0, PyData.depth]
theorem shp_bool (i : Bool) : shp (.bool i) = true := by simp [shp, noD, SeqAt.shaped, PyData.canLay0, PyData.depth]
theorem shp_none : shp .none = true := by simp [shp, noD, SeqAt.shaped, PyData.canLay0, PyData.depth]
theorem shp_L1 (ns : List Int) : shp (L1 ns) = true := by simp [shp, noD, SeqAt.shaped, PyData.canLay0, PyData.depth, noDs_ints, canLay_ints, depth_ints]
theorem noDs_LL (rs : List (List Int)) : noDs (rs.map fun ns => L1 ns) = true := by
  induction rs with
  | nil => rfl
  | cons n ns ih => simp [noDs, noD, noDs_ints, ih]
theorem canLay_LL (rs : List (List Int)) : PyData.canLayAll0 (rs.map fun ns => L1 ns) = true := by
  induction rs with
  | nil => rfl
  | cons n ns ih => simp [PyData.canLayAll0, PyData.canLay0, canLay_ints, ih]
theorem depth_LL (rs : List (List Int)) : PyData.depthAll (rs.map fun ns => L1 ns) ≤ 1 := by
  induction rs with
  | nil => simp [PyData.depthAll]
  | cons n ns ih => simp [PyData.depthAll, PyData.depth, depth_ints] at ih ⊢; omega
theorem shp_LL (rs : List (List Int)) : shp (LL rs) = true := by
  have h := depth_LL rs
  simp only [L1] at h
  simp [shp, noD, SeqAt.shaped, PyData.canLay0, PyData.depth, noDs_LL, canLay_LL]
  omega
theorem eqv_int (i j : Int) : PyData.eqv (.int i) (.int j) = decide (i = j) := by simp [PyData.eqv]; rfl
theorem eqv_ints : ∀ (a b : List Int), PyData.eqvAll (a.map PyData.int) (b.map PyData.int) = decide (a = b)
  | [], [] => by simp [PyData.eqvAll]
  | [], _ :: _ => by simp [PyData.eqvAll]
  | _ :: _, [] => by simp [PyData.eqvAll]
  | x :: xs, y :: ys => by simp [PyData.eqvAll, eqv_int, eqv_ints xs ys]
theorem eqv_L1 (a b : List Int) : PyData.eqv (L1 a) (L1 b) = decide (a = b) := by simp [PyData.eqv, eqv_ints]
theorem eqv_LLs : ∀ (a b : List (List Int)), PyData.eqvAll (a.map fun ns => L1 ns) (b.map fun ns => L1 ns) = decide (a = b)
  | [], [] => by simp [PyData.eqvAll]
  | [], _ :: _ => by simp [PyData.eqvAll]
  | _ :: _, [] => by simp [PyData.eqvAll]
  | x :: xs, y :: ys => by
    have := eqv_L1 x y
    simp [PyData.eqvAll, eqv_LLs xs ys]
    simp [L1] at this
    rw [this]
theorem eqv_LL (a b : List (List Int)) : PyData.eqv (LL a) (LL b) = decide (a = b) := by simp only [PyData.eqv, eqv_LLs]
@[simp] theorem eqF_int (i j : Int) : eqF (.int i) (.int j) = some (.bool (decide (i = j))) := by simp [eqF, shp_int, eqv_int]
@[simp] theorem neF_int (i j : Int) : neF (.int i) (.int j) = some (.bool (!decide (i = j))) := by simp [neF, shp_int, eqv_int]
@[simp] theorem eqF_L1 (i j : List Int) : eqF (L1 i) (L1 j) = some (.bool (decide (i = j))) := by simp only [eqF, shp_L1, eqv_L1]; simp
@[simp] theorem neF_L1 (i j : List Int) : neF (L1 i) (L1 j) = some (.bool (!decide (i = j))) := by simp only [neF, shp_L1, eqv_L1]; simp
@[simp] theorem eqF_LL (i j : List (List Int)) : eqF (LL i) (LL j) = some (.bool (decide (i = j))) := by simp only [eqF, shp_LL, eqv_LL]; simp
@[simp] theorem neF_LL (i j : List (List Int)) : neF (LL i) (LL j) = some (.bool (!decide (i = j))) := by simp only [neF, shp_LL, eqv_LL]; simp
theorem mulI_r (i j : Int) (h : -1000000 ≤ j ∧ j ≤ 1000000) : mulI (.int i) (.int j) = some (.int (i * j)) := by
  have : (-(2 ^ 64) < i ∧ i < 2 ^ 64) ∨ (-(2 ^ 64) < j ∧ j < 2 ^ 64) := .inr (by omega)
  exact if_pos this
theorem mulI_l (i j : Int) (h : -1000000 ≤ i ∧ i ≤ 1000000) : mulI (.int i) (.int j) = some (.int (i * j)) := by
  have : (-(2 ^ 64) < i ∧ i < 2 ^ 64) ∨ (-(2 ^ 64) < j ∧ j < 2 ^ 64) := .inl (by omega)
  exact if_pos this
@[simp] theorem mulI_n (i : Nat) (j : Int) (h : i ≤ 1000000) : mulI (.int i) (.int j) = some (.int (i * j)) := mulI_l _ _ (by omega)
@[simp] theorem mulI_c1 (j : Int) : mulI (.int 7919) (.int j) = some (.int (7919 * j)) := mulI_l _ _ (by omega)
@[simp] theorem mulI_c2 (i : Int) : mulI (.int i) (.int 48271) = some (.int (i * 48271)) := mulI_r _ _ (by omega)
/-! ### outcomes -/
@[simp] theorem bind_ok {α β : Type} (a : α) (f : α → Out β) : (Out.ok a).bind f = f a := rfl
@[simp] theorem bind_ex {α β : Type} (a : String) (f : α → Out β) : (Out.ex a).bind f = .ex a := rfl
@[simp] theorem bind_st {α β : Type} (f : α → Out β) : (Out.st).bind f = .st := rfl
@[simp] theorem noX_ok {α : Type} (a : α) : noX (Out.ok a) = .ok a := rfl
@[simp] theorem noX_st {α : Type} : noX (Out.st : Out α) = .st := rfl
@[simp] theorem noX_ex {α : Type} (c : String) : noX (Out.ex c : Out α) = .st := rfl
@[simp] theorem bindS_ok (a : R) (k : R → SO) : bindS (.ok a) k = k a := rfl
@[simp] theorem bindS_ex (a : String) (k : R → SO) : bindS (.ex a) k = .ex a := rfl
@[simp] theorem bindS_st (k : R → SO) : bindS .st k = .st := rfl
@[simp] theorem bindQ_ok (a : List Nat) (k : List Nat → SO) : bindQ (.ok a) k = k a := rfl
/-! ### statements, one ahead of the rest -/
@[simp] theorem seq_asg (i : Nat) (e : ED) (B : SD) (ρ : Env) : seqD (asgD i e) B ρ = bindS (e ρ) fun r => match entOf r with
    | some n => B (ρ.set i n)
    | none => .st := by
  unfold seqD asgD bindS
  cases e ρ with
  | ok r => cases h : entOf r <;> simp only [h]
  | ex c => rfl
  | st => rfl
@[simp] theorem seq_expr (e : ED) (B : SD) (ρ : Env) : seqD (exprD e) B ρ = bindS (e ρ) fun _ => B ρ := by
  unfold seqD exprD bindS
  cases e ρ <;> rfl
@[simp] theorem seq_if (t : TD) (a b B : SD) (ρ : Env) : seqD (ifD t a b) B ρ = match t ρ with
    | .ok true => seqD a B ρ
    | .ok false => seqD b B ρ
    | .ex c => .ex c
    | .st => .st := by
  unfold seqD ifD
  cases t ρ with
  | ok c => cases c <;> rfl
  | ex c => rfl
  | st => rfl
@[simp] theorem un_asg (i : Nat) (e : ED) (ρ : Env) : asgD i e ρ = bindS (e ρ) fun r => match entOf r with
    | some n => .nx (ρ.set i n)
    | none => .st := rfl
@[simp] theorem un_expr (e : ED) (ρ : Env) : exprD e ρ = bindS (e ρ) fun _ => .nx ρ := rfl
@[simp] theorem kit1 : kitB "int" "int" = some true := by decide +kernel
@[simp] theorem kit2 : kitB "int" "bool" = some false := by decide +kernel
@[simp] theorem kit3 : kitB "list" "list" = some true := by decide +kernel
@[simp] theorem kit4 : kitB "tuple" "tuple" = some true := by decide +kernel
@[simp] theorem seq_nx (B : SD) (ρ : Env) : seqD (fun ρ => .nx ρ) B ρ = B ρ := rfl
@[simp] theorem seq_rt (r : R) (B : SD) (ρ : Env) : seqD (fun _ => .rt r) B ρ = .rt r := rfl
@[simp] theorem seq_ex (c : String) (B : SD) (ρ : Env) : seqD (fun _ => .ex c) B ρ = .ex c := rfl
@[simp] theorem seq_ct (B : SD) (ρ : Env) : seqD (fun ρ => .ct ρ) B ρ = .ct ρ := rfl
@[simp] theorem seq_bk (B : SD) (ρ : Env) : seqD (fun ρ => .bk ρ) B ρ = .bk ρ := rfl
@[simp] theorem seq_ret (e : ED) (B : SD) (ρ : Env) : seqD (retD e) B ρ = retD e ρ := by
  unfold seqD retD bindS
  cases e ρ with
  | ok r => cases r <;> rfl
  | ex c => rfl
  | st => rfl
@[simp] theorem seq_seq (a b B : SD) (ρ : Env) : seqD (seqD a b) B ρ = seqD a (seqD b B) ρ := by
  unfold seqD
  cases a ρ <;> rfl
theorem seq_of {a B : SD} {ρ ρ' : Env} (h : a ρ = .nx ρ') : seqD a B ρ = B ρ' := by unfold seqD; rw [h]
@[simp] theorem if_eq (t : TD) (a b : SD) (ρ : Env) : ifD t a b ρ = match t ρ with
    | .ok true => a ρ
    | .ok false => b ρ
    | .ex c => .ex c
    | .st => .st := by
  unfold ifD
  cases t ρ with
  | ok c => cases c <;> rfl
  | ex c => rfl
  | st => rfl
@[simp] theorem seq_app (i : Nat) (q : QD) (e : ED) (B : SD) (ρ : Env) : seqD (appD i q e) B ρ = match appD i q e ρ with
    | .nx ρ' => B ρ'
    | o => o := rfl
@[simp] theorem seq_appV (i : Nat) (q : QD) (j : Nat) (B : SD) (ρ : Env) : seqD (appVD i q j) B ρ = match appVD i q j ρ with
    | .nx ρ' => B ρ'
    | o => o := rfl
@[simp] theorem seq_set (i : Nat) (q : QD) (x e : ED) (B : SD) (ρ : Env) : seqD (setD i q x e) B ρ = match setD i q x e ρ with
    | .nx ρ' => B ρ'
    | o => o := rfl
/-- an entry with one more -/
def addE : Ent → R → Option Ent
  | .ow n l, .im d => (apF d n (Ty.ks l)).map fun l' => .ow n l'
  | .ow n l, .fr m t => (apN m t n (Ty.ks l)).map fun l' => .ow n l'
  | _, _ => none
@[simp] theorem addE_0 (l : List PD) (d : PD) (h : l.length ≤ 100000) : addE (.ow 0 l) (.im d) = some (.ow 0 (l ++ [d])) := by
  show (apF d 0 (Ty.ks l)).map (fun l' => Ent.ow 0 l') = _
  have : apF d 0 (Ty.ks (show Ty 1 from l)) = some (l ++ [d]) := if_pos h
  rw [this]
  rfl
@[simp] theorem addE_1 (l : List (List PD)) (t : List PD) (h : l.length ≤ 100000) : addE (.ow 1 l) (.fr 0 t) = some (.ow 1 (l ++ [t])) := by
  show (apN 0 t 1 (Ty.ks l)).map (fun l' => Ent.ow 1 l') = _
  have : apN 0 t 1 (Ty.ks (show Ty 2 from l)) = some (l ++ [t]) := by
    unfold apN
    simp only [dite_true]
    exact if_pos h
  rw [this]
  rfl
@[simp] theorem app_own (i : Nat) (e : ED) (ρ : Env) : appD i (ownQ i) e ρ = match ρ[i]? with
    | some en => bindS (noX (e ρ)) fun r => match addE en r with
      | some en' => .nx (ρ.set i en')
      | none => .st
    | none => .st := by
  unfold appD ownQ
  cases h : ρ[i]? with
  | none => rfl
  | some en =>
    cases en with
    | no =>
      cases e ρ <;> simp [bindQ, bindS, noX, addE]
    | im d =>
      cases e ρ <;> simp [bindQ, bindS, noX, addE]
    | vv v =>
      cases e ρ <;> simp [bindQ, bindS, noX, addE]
    | ob a C fs =>
      cases e ρ <;> simp [bindQ, bindS, noX, addE]
    | ow n t =>
      simp only [bindQ]
      cases e ρ with
      | ex c => rfl
      | st => rfl
      | ok r =>
        simp only [noX, bindS]
        cases r with
        | ro m u => rfl
        | im d =>
          simp only [apR, upE, h, addE, modP]
          cases apF d n (Ty.ks t) <;> rfl
        | fr m u =>
          simp only [apR, upE, h, addE, modP]
          cases apN m u n (Ty.ks t) <;> rfl
@[simp] theorem app_move (i j : Nat) (ρ : Env) (h : i ≠ j) : appVD i (ownQ i) j ρ = match ρ[i]? with
    | some en => (match ρ[j]? with
      | some (.im d) => (match addE en (.im d) with
        | some en' => .nx (ρ.set i en')
        | none => .st)
      | some (.ow n t) => (match addE en (.fr n t) with
        | some en' => .nx ((ρ.set j .no).set i en')
        | none => .st)
      | _ => .st)
    | none => .st := by
  unfold appVD ownQ
  cases e : ρ[i]? with
  | none => rfl
  | some en =>
    cases en with
    | no => simp only [bindQ]; cases ρ[j]? with
      | none => rfl
      | some x => cases x <;> rfl
    | im d => simp only [bindQ]; cases ρ[j]? with
      | none => rfl
      | some x => cases x <;> rfl
    | vv v => simp only [bindQ]; cases ρ[j]? with
      | none => rfl
      | some x => cases x <;> rfl
    | ob a C fs => simp only [bindQ]; cases ρ[j]? with
      | none => rfl
      | some x => cases x <;> rfl
    | ow n t =>
      simp only [bindQ]
      cases e2 : ρ[j]? with
      | none => rfl
      | some x =>
        cases x with
        | no => rfl
        | vv v => rfl
        | ob a C fs => rfl
        | im d =>
          simp only [upE, e, addE, modP]
          cases apF d n (Ty.ks t) <;> rfl
        | ow m u =>
          have e3 : (ρ.set j .no)[i]? = some (.ow n t) := by rw [List.getElem?_set_ne (Ne.symm h)]; exact e
          simp only [upE, e3, addE, modP]
          cases apN m u n (Ty.ks t) <;> rfl
theorem modP_cons (f : LF) (n : Nat) (l : Ty (n + 2)) (j : Nat) (r : List Nat) (u : Ty (n + 1)) (h : (Ty.ks l)[j]? = some u) : modP f (n + 1) l (j :: r) = (modP f n u r).map fun u' => (Ty.ks l).set j u' := by
  show (match (Ty.ks l)[j]? with
    | some u => match modP f n u r with
      | some u' => some ((Ty.ks l).set j u')
      | none => none
    | none => none) = _
  rw [h]
  show (match modP f n u r with
      | some u' => some ((Ty.ks l).set j u')
      | none => none) = _
  cases modP f n u r <;> rfl
theorem app_ix {i : Nat} {ρ : Env} {l : List (List PD)} {k : Nat} {d : PD} {e2 e : ED} {u : List PD} (h1 : ρ[i]? = some (.ow 1 l)) (h2 : e2 ρ = .ok (.im (.int k))) (h3 : e ρ = .ok (.im d)) (h4 : l[k]? = some u) (h5 : u.length ≤ 100000) :
    appD i (ixQ i (ownQ i) e2) e ρ = .nx (ρ.set i (.ow 1 (l.set k (u ++ [d])))) := by
  have hk : k < l.length := by
    rcases Nat.lt_or_ge k l.length with h | h
    · exact h
    · rw [List.getElem?_eq_none h] at h4; cases h4
  have e1 : lenP 1 l [] = some l.length := rfl
  have e3 : ixN l.length (k : Int) = some k := by
    unfold ixN
    rw [if_pos (by omega), if_pos (by omega)]
    rfl
  have e4 : modP (apF d) 1 l [k] = some (l.set k (u ++ [d])) := by
    have : modP (apF d) 0 u [] = some (u ++ [d]) := by
      show apF d 0 u = _
      exact if_pos h5
    rw [modP_cons (apF d) 0 l k [] u h4, this]
    rfl
  unfold appD ixQ ownQ
  simp only [h1, h2, h3, bind_ok, R.dat, e1, e3, bindQ_ok, noX_ok, bindS_ok, apR, upE, List.nil_append]
  rw [e4]
theorem map_eraseIdx : ∀ (l : List Int) (k : Nat), (T1 l).eraseIdx k = T1 (l.eraseIdx k)
  | [], _ => rfl
  | _ :: _, 0 => rfl
  | a :: l, k + 1 => by
    show PyData.int a :: (T1 l).eraseIdx k = PyData.int a :: T1 (l.eraseIdx k)
    rw [map_eraseIdx l k]
theorem pop_perm : ∀ (l : List Int) (k : Nat) (h : k < l.length), (l[k] :: l.eraseIdx k).Perm l
  | a :: l, 0, _ => List.Perm.refl _
  | a :: l, k + 1, h => by
    have hk : k < l.length := by simpa using h
    have ih := pop_perm l k hk
    show (l[k] :: a :: l.eraseIdx k).Perm (a :: l)
    exact (List.Perm.swap _ _ _).trans (ih.cons a)
theorem app_pop {o i : Nat} {e : ED} {ρ : Env} {left found : List Int} {k : Nat} (h1 : ρ[i]? = some (.ow 0 (T1 left))) (h2 : ρ[o]? = some (.ow 0 (T1 found))) (h3 : o ≠ i) (h4 : e ρ = .ok (.im (.int k))) (h5 : k < left.length) (h6 : left.length ≤ 100000) (h7 : found.length ≤ 100000) :
    appPopD o i e ρ = .nx ((ρ.set i (.ow 0 (T1 (left.eraseIdx k)))).set o (.ow 0 (T1 (found ++ [left[k]])))) := by
  have l1 : (T1 left).length = left.length := by simp
  have e3 : ixN left.length (k : Int) = some k := by
    unfold ixN
    rw [if_pos (by omega), if_pos (by omega)]
    rfl
  have e4 : (T1 left)[k]? = some (.int left[k]) := by simp [h5]
  have e5 : (T1 left).eraseIdx k = T1 (left.eraseIdx k) := map_eraseIdx left k
  have e1 : popAt ρ i (.im (.int k)) = some (k, .int left[k], T1 (left.eraseIdx k)) := by
    unfold popAt
    rw [h1]
    show (if (T1 left).length ≤ 100000 then (match ixN (T1 left).length (k : Int) with
      | some j => (match (T1 left)[j]? with
        | some d => some (j, d, (T1 left).eraseIdx j)
        | none => none)
      | none => none) else none) = _
    rw [l1, if_pos h6, e3]
    show (match (T1 left)[k]? with
      | some d => some (k, d, (T1 left).eraseIdx k)
      | none => none) = _
    rw [e4, e5]
  unfold appPopD
  simp only [h4, noX_ok, bindS_ok, e1]
  have e2 : (ρ.set i (.ow 0 (T1 (left.eraseIdx k))))[o]? = some (.ow 0 (T1 found)) := by rw [List.getElem?_set_ne (Ne.symm h3)]; exact h2
  rw [e2]
  have c : List.length (α := Ty 0) (T1 found) ≤ 100000 ∧ o ≠ i := ⟨by rw [show List.length (α := Ty 0) (T1 found) = found.length from by show List.length (T1 found) = _; simp]; exact h7, h3⟩
  show (if _ then _ else _) = _
  rw [if_pos c]
  have : (T1 found) ++ [PyData.int left[k]] = T1 (found ++ [left[k]]) := by simp [T1]
  rw [← this]
/-! ### loops -/
theorem forL_inv {b : Tg} {body : SD} (I : Nat → Env → Prop) : ∀ (ds : List PD) (k : Nat) (ρ : Env), I k ρ →
    (∀ (i : Nat) (h : i < ds.length) (ρ : Env), I (k + i) ρ → ∃ ρ1, bindT b ds[i] ρ = some ρ1 ∧ ∃ ρ2, (body ρ1 = .nx ρ2 ∨ body ρ1 = .ct ρ2) ∧ I (k + i + 1) ρ2) →
    ∃ ρ', forL b body ds ρ = .nx ρ' ∧ I (k + ds.length) ρ'
  | [], k, ρ, h0, _ => ⟨ρ, rfl, h0⟩
  | d :: ds, k, ρ, h0, st => by
    obtain ⟨ρ1, e1, ρ2, e2, h2⟩ := st 0 (by simp) ρ h0
    obtain ⟨ρ', e3, h3⟩ := forL_inv I ds (k + 1) ρ2 h2 fun i h ρ hI => by
      obtain ⟨ρ1, e1, ρ2, e2, h2⟩ := st (i + 1) (by simpa using h) ρ (by simpa [Nat.add_assoc, Nat.add_comm 1] using hI)
      refine ⟨ρ1, by simpa using e1, ρ2, e2, ?_⟩
      have : k + 1 + i + 1 = k + (i + 1) + 1 := by omega
      rw [this]
      exact h2
    refine ⟨ρ', ?_, ?_⟩
    · simp only [List.getElem_cons_zero] at e1
      unfold forL
      rw [e1]
      rcases e2 with e2 | e2
      · simp only [e2]; exact e3
      · simp only [e2]; exact e3
    · have : k + 1 + ds.length = k + (d :: ds).length := by simp; omega
      rw [← this]
      exact h3
theorem for_ex {s : LD} {b : Tg} {body : SD} {ρ : Env} {ds : List PD} (I : Nat → Env → Prop) (hs : s ρ = .ok ds) (h0 : I 0 ρ)
    (st : ∀ (i : Nat) (h : i < ds.length) (ρ : Env), I i ρ → ∃ ρ1, bindT b ds[i] ρ = some ρ1 ∧ ∃ ρ2, (body ρ1 = .nx ρ2 ∨ body ρ1 = .ct ρ2) ∧ I (i + 1) ρ2) :
    ∃ ρ', forD s b body ρ = .nx ρ' ∧ I ds.length ρ' := by
  unfold forD
  rw [hs]
  obtain ⟨ρ', e, h⟩ := forL_inv I ds 0 ρ h0 fun i h ρ hI => by
    obtain ⟨ρ1, e1, ρ2, e2, h2⟩ := st i h ρ (by simpa using hI)
    exact ⟨ρ1, e1, ρ2, e2, by simpa using h2⟩
  exact ⟨ρ', e, by simpa using h⟩
theorem seq_for {s : LD} {b : Tg} {body B : SD} {ρ : Env} {ds : List PD} {o : SO} (I : Nat → Env → Prop) (hs : s ρ = .ok ds) (h0 : I 0 ρ)
    (st : ∀ (i : Nat) (h : i < ds.length) (ρ : Env), I i ρ → ∃ ρ1, bindT b ds[i] ρ = some ρ1 ∧ ∃ ρ2, (body ρ1 = .nx ρ2 ∨ body ρ1 = .ct ρ2) ∧ I (i + 1) ρ2)
    (k : ∀ ρ', I ds.length ρ' → B ρ' = o) : seqD (forD s b body) B ρ = o := by
  obtain ⟨ρ', e, h⟩ := for_ex I hs h0 st
  rw [seq_of e]
  exact k ρ' h
theorem lcL_eq {k : Tg} {t : TD} {e : ED} {ρ : Env} (p : PD → Bool) (g : PD → PD) : ∀ (ds : List PD),
    (∀ d ∈ ds, ∃ ρ1, bindT k d ρ = some ρ1 ∧ t ρ1 = .ok (p d) ∧ (p d = true → ∃ r, e ρ1 = .ok r ∧ r.fz = .im (g d))) → lcL k t e ρ ds = .ok ((ds.filter p).map g)
  | [], _ => rfl
  | d :: ds, h => by
    obtain ⟨ρ1, e1, e2, e3⟩ := h d List.mem_cons_self
    have ih := lcL_eq p g ds fun d hd => h d (List.mem_cons_of_mem _ hd)
    unfold lcL
    rw [e1]
    simp only [e2, noX_ok, bind_ok]
    by_cases c : p d = true
    · obtain ⟨r, e4, e5⟩ := e3 c
      simp only [c, if_true, e4, noX_ok, bind_ok, e5, ih]
      simp [c]
    · simp only [c, ih]
      simp [c]
theorem lcD_all {s : LD} {vs : List Nat} {k : Tg} {e : ED} {ρ : Env} {α : Type} (xs : List α) (c : α → PD) (g : α → PD) (hs : s ρ = .ok (xs.map c)) (hl : xs.length ≤ 100000)
    (h : ∀ x ∈ xs, ∃ ρ1, bindT k (c x) (wipeE ρ vs) = some ρ1 ∧ ∃ r, e ρ1 = .ok r ∧ r.fz = .im (g x)) : lcD s vs k yesT e ρ = .ok (.fr 0 (@List.map α PD g xs)) := by
  unfold lcD
  rw [hs]
  have : lcL k yesT e (wipeE ρ vs) (xs.map c) = .ok (xs.map g) := by
    clear hs hl
    induction xs with
    | nil => rfl
    | cons x xs ih =>
      obtain ⟨ρ1, e1, r, e2, e3⟩ := h x List.mem_cons_self
      simp only [List.map_cons]
      unfold lcL
      rw [e1]
      simp only [yesT, noX_ok, bind_ok, if_true, e2, e3, ih fun x hx => h x (List.mem_cons_of_mem _ hx)]
  rw [bind_ok, this, bind_ok, if_pos (by simpa using hl)]
theorem lcD_im {s : LD} {vs : List Nat} {k : Tg} {e : ED} {ρ : Env} {α : Type} (xs : List α) (c : α → PD) (g : α → PD) (hs : s ρ = .ok (xs.map c)) (hl : xs.length ≤ 100000)
    (h : ∀ x ∈ xs, ∃ ρ1, bindT k (c x) (wipeE ρ vs) = some ρ1 ∧ e ρ1 = .ok (.im (g x))) : lcD s vs k yesT e ρ = .ok (.fr 0 (@List.map α PD g xs)) :=
  lcD_all xs c g hs hl fun x hx => let ⟨ρ1, e1, e2⟩ := h x hx; ⟨ρ1, e1, _, e2, rfl⟩
theorem lcFD_all {s : LD} {n : Nat} {vs : List Nat} {k : Tg} {e : ED} {ρ : Env} {α : Type} (xs : List α) (c : α → PD) (g : α → Ty (n + 1)) (hs : s ρ = .ok (xs.map c)) (hl : xs.length ≤ 100000)
    (h : ∀ x ∈ xs, ∃ ρ1, bindT k (c x) (wipeE ρ vs) = some ρ1 ∧ e ρ1 = .ok (.fr n (g x))) : lcFD n s vs k yesT e ρ = .ok (.fr (n + 1) (xs.map g)) := by
  unfold lcFD
  rw [hs]
  have : lcLF n k yesT e (wipeE ρ vs) (xs.map c) = .ok (xs.map g) := by
    clear hs hl
    induction xs with
    | nil => rfl
    | cons x xs ih =>
      obtain ⟨ρ1, e1, e2⟩ := h x List.mem_cons_self
      simp only [List.map_cons]
      unfold lcLF
      rw [e1]
      simp only [yesT, noX_ok, bind_ok, if_true, e2, R.asFr, ih fun x hx => h x (List.mem_cons_of_mem _ hx)]
      simp
  rw [bind_ok, this, noX_ok, bind_ok, if_pos (by simpa using hl)]
theorem den_rt {m n : Nat} {d : SD} {ds : List PD} {r : R} (h : d (ds.map Ent.im ++ List.replicate (m - n) Ent.no) = .rt r) : denF m n d ds = .ok r := by unfold denF; rw [h]
theorem den_nx {m n : Nat} {d : SD} {ds : List PD} {ρ : Env} (h : d (ds.map Ent.im ++ List.replicate (m - n) Ent.no) = .nx ρ) : denF m n d ds = .ok (.im .none) := by unfold denF; rw [h]
theorem den_ex {m n : Nat} {d : SD} {ds : List PD} {c : String} (h : d (ds.map Ent.im ++ List.replicate (m - n) Ent.no) = .ex c) : denF m n d ds = .ex c := by unfold denF; rw [h]
theorem lcL_im {k : Tg} {e : ED} {ρ : Env} {α : Type} (xs : List α) (c : α → PD) (g : α → PD)
    (h : ∀ x ∈ xs, ∃ ρ1, bindT k (c x) ρ = some ρ1 ∧ e ρ1 = .ok (.im (g x))) : lcL k yesT e ρ (xs.map c) = .ok (xs.map g) := by
  induction xs with
  | nil => rfl
  | cons x xs ih =>
    obtain ⟨ρ1, e1, e2⟩ := h x List.mem_cons_self
    simp only [List.map_cons]
    unfold lcL
    rw [e1]
    simp only [yesT, noX_ok, bind_ok, if_true, e2, R.fz, ih fun x hx => h x (List.mem_cons_of_mem _ hx)]
theorem lc2D_im {s s2 : LD} {vs vs1 : List Nat} {k1 k2 : Tg} {e : ED} {ρ : Env} {α β : Type} (xs : List α) (c : α → PD) (ys : α → List β) (c2 : α → β → PD) (g : α → β → PD) (hs : s ρ = .ok (xs.map c)) (hl : (xs.flatMap fun x => (ys x).map (g x)).length ≤ 100000)
    (h : ∀ x ∈ xs, ∃ ρ1, bindT k1 (c x) (wipeE ρ vs) = some ρ1 ∧ s2 ρ1 = .ok ((ys x).map (c2 x)) ∧ ∀ y ∈ ys x, ∃ ρ2, bindT k2 (c2 x y) (wipeE ρ1 vs1) = some ρ2 ∧ e ρ2 = .ok (.im (g x y))) :
    lc2D s vs k1 yesT s2 vs1 k2 yesT e ρ = .ok (.fr 0 (@List.flatMap α PD (fun x => (ys x).map (g x)) xs)) := by
  unfold lc2D
  rw [hs]
  have : lc2L k1 yesT s2 k2 yesT e vs1 (wipeE ρ vs) (xs.map c) = .ok (xs.flatMap fun x => (ys x).map (g x)) := by
    clear hs hl
    induction xs with
    | nil => rfl
    | cons x xs ih =>
      obtain ⟨ρ1, e1, e2, e3⟩ := h x List.mem_cons_self
      simp only [List.map_cons]
      unfold lc2L
      rw [e1]
      have e4 := lcL_im (k := k2) (e := e) (ρ := wipeE ρ1 vs1) (ys x) (c2 x) (g x) e3
      simp only [yesT, noX_ok, bind_ok, if_true, e2]
      rw [e4]
      simp only [bind_ok, ih fun x hx => h x (List.mem_cons_of_mem _ hx)]
      rfl
  rw [bind_ok, this, noX_ok, bind_ok, if_pos hl]
/-- what a def answers -/
def fin : SO → Out R
  | .nx _ => .ok (.im .none)
  | .rt r => .ok r
  | .rv r _ => .ok r
  | .ex c => .ex c
  | .ev c _ => .ex c
  | _ => .st
theorem den_eq (m n : Nat) (d : SD) (ds : List PD) : denF m n d ds = fin (d (ds.map Ent.im ++ List.replicate (m - n) Ent.no)) := by
  unfold denF fin
  cases d (ds.map Ent.im ++ List.replicate (m - n) Ent.no) <;> rfl
@[simp] theorem fin_nx (ρ : Env) : fin (.nx ρ) = .ok (.im .none) := rfl
@[simp] theorem fin_rt (r : R) : fin (.rt r) = .ok r := rfl
@[simp] theorem fin_ex (c : String) : fin (.ex c) = .ex c := rfl
@[simp] theorem fin_rv (r : R) (ρ : Env) : fin (.rv r ρ) = .ok r := rfl
@[simp] theorem fin_ev (c : String) (ρ : Env) : fin (.ev c ρ) = .ex c := rfl
/-- one turn of a loop -/
def Stp (J : Env → Prop) (o : SO) : Prop := ∃ ρ, (o = .nx ρ ∨ o = .ct ρ) ∧ J ρ
theorem stp_nx {J : Env → Prop} {ρ : Env} : J ρ → Stp J (.nx ρ) := fun h => ⟨ρ, .inl rfl, h⟩
theorem stp_ct {J : Env → Prop} {ρ : Env} : J ρ → Stp J (.ct ρ) := fun h => ⟨ρ, .inr rfl, h⟩
theorem for_nm {α : Type} (I : Nat → Env → Prop) (xs : List α) (c : α → PD) {s : LD} {j : Nat} {body : SD} {ρ : Env} (hs : s ρ = .ok (xs.map c)) (h0 : I 0 ρ)
    (st : ∀ (i : Nat) (h : i < xs.length) (ρ : Env), I i ρ → Stp (I (i + 1)) (body (ρ.set j (.im (c xs[i]))))) : ∃ ρ', forD s (.nm j) body ρ = .nx ρ' ∧ I xs.length ρ' := by
  have h := for_ex (b := .nm j) (body := body) I hs h0 fun i h ρ hI => by
    obtain ⟨ρ2, e2, h2⟩ := st i (by simpa using h) ρ hI
    exact ⟨_, rfl, ρ2, by simpa using e2, h2⟩
  simpa using h
theorem fin_for {α : Type} (I : Nat → Env → Prop) (xs : List α) (c : α → PD) {s : LD} {j : Nat} {body B : SD} {ρ : Env} {o : Out R} (hs : s ρ = .ok (xs.map c)) (h0 : I 0 ρ)
    (st : ∀ (i : Nat) (h : i < xs.length) (ρ : Env), I i ρ → Stp (I (i + 1)) (body (ρ.set j (.im (c xs[i])))))
    (k : ∀ ρ', I xs.length ρ' → fin (B ρ') = o) : fin (seqD (forD s (.nm j) body) B ρ) = o := by
  obtain ⟨ρ', e, h⟩ := for_nm I xs c hs h0 st
  rw [seq_of e]
  exact k ρ' h
theorem fin_forE {α : Type} (I : Nat → Env → Prop) (xs : List α) (c : α → PD) {s : LD} {j : Nat} {body : SD} {ρ : Env} (hs : s ρ = .ok (xs.map c)) (h0 : I 0 ρ)
    (st : ∀ (i : Nat) (h : i < xs.length) (ρ : Env), I i ρ → Stp (I (i + 1)) (body (ρ.set j (.im (c xs[i]))))) : fin (forD s (.nm j) body ρ) = .ok (.im .none) := by
  obtain ⟨ρ', e, h⟩ := for_nm I xs c hs h0 st
  rw [e]
  rfl
theorem stp_for {α : Type} {J : Env → Prop} (I : Nat → Env → Prop) (xs : List α) (c : α → PD) {s : LD} {j : Nat} {body B : SD} {ρ : Env} (hs : s ρ = .ok (xs.map c)) (h0 : I 0 ρ)
    (st : ∀ (i : Nat) (h : i < xs.length) (ρ : Env), I i ρ → Stp (I (i + 1)) (body (ρ.set j (.im (c xs[i])))))
    (k : ∀ ρ', I xs.length ρ' → Stp J (B ρ')) : Stp J (seqD (forD s (.nm j) body) B ρ) := by
  obtain ⟨ρ', e, h⟩ := for_nm I xs c hs h0 st
  rw [seq_of e]
  exact k ρ' h
theorem stp_forE {α : Type} {J : Env → Prop} (I : Nat → Env → Prop) (xs : List α) (c : α → PD) {s : LD} {j : Nat} {body : SD} {ρ : Env} (hs : s ρ = .ok (xs.map c)) (h0 : I 0 ρ)
    (st : ∀ (i : Nat) (h : i < xs.length) (ρ : Env), I i ρ → Stp (I (i + 1)) (body (ρ.set j (.im (c xs[i])))))
    (k : ∀ ρ', I xs.length ρ' → J ρ') : Stp J (forD s (.nm j) body ρ) := by
  obtain ⟨ρ', e, h⟩ := for_nm I xs c hs h0 st
  rw [e]
  exact stp_nx (k ρ' h)
/-! over range(n) -/
@[simp] theorem rg_all (n : Nat) : (rangeL 0 (n : Int)).map PyData.int = (List.range n).map fun (i : Nat) => PyData.int (i : Int) := by
  unfold rangeL
  simp
/-! ### no int twice -/
theorem step_has (ks : List Int) (a : Int) (h : a ∉ ks) : PyProof.Rows.step_dedup ks a = ks ++ [a] := by
  have c : (ks.any fun x => x == a) = false := by
    rw [List.any_eq_false]
    intro x hx e
    have e' : x = a := by simpa using e
    exact h (e' ▸ hx)
  unfold PyProof.Rows.step_dedup
  rw [c]
  rfl
theorem ddL_from : ∀ (l ks : List Int), (ks ++ l).Nodup → l.foldl PyProof.Rows.step_dedup ks = ks ++ l
  | [], ks, _ => by simp
  | a :: l, ks, h => by
    have h1 : a ∉ ks := by
      have := (List.nodup_append.mp h).2.2
      intro hk
      exact this a hk a (by simp) rfl
    rw [List.foldl_cons, step_has ks a h1, ddL_from l (ks ++ [a]) (by simpa using h)]
    simp
theorem ddL_nodup (l : List Int) (h : l.Nodup) : ddL l = l := by
  have := ddL_from l [] (by simpa using h)
  simpa [ddL] using this
theorem sortI_self (l : List Int) (h : l.Pairwise (· < ·)) : sortI l = l :=
  (sortI_unique (List.Perm.refl l) (h.imp fun h => Int.le_of_lt h)).symm
/-! ### places in lists -/
theorem atI_nat {α : Type} (xs : List α) (i : Int) (h0 : 0 ≤ i) (h : i < xs.length) : atI xs i = xs[i.toNat]? := by
  unfold atI ixN
  simp [h0, h]
theorem ixN_nat (n : Nat) (i : Int) (h0 : 0 ≤ i) (h : i < n) : ixN n i = some i.toNat := by
  unfold ixN
  simp [h0, h]
theorem rangeL_len (n : Int) : (rangeL 0 n).length = n.toNat := by simp [rangeL]
theorem rangeL_get (n : Int) (i : Nat) (h : i < (rangeL 0 n).length) : (rangeL 0 n)[i] = (i : Int) := by simp [rangeL]
theorem rangeL_eq (n : Nat) : rangeL 0 (n : Int) = (List.range n).map fun (i : Nat) => (i : Int) := by simp [rangeL]
end Z

/-! ## M2 -/
set_option Elab.async false
set_option linter.all false
set_option maxRecDepth 100000
set_option maxHeartbeats 1000000
namespace Z
open PySem PySem.Spec PyProof.Rows L2
/-! ### loops over pairs -/
theorem for_tp {α : Type} (I : Nat → Env → Prop) (xs : List α) (c1 c2 : α → PD) {s : LD} {j1 j2 : Nat} {body : SD} {ρ : Env} (hs : s ρ = .ok (xs.map fun x => .tuple [c1 x, c2 x])) (h0 : I 0 ρ)
    (st : ∀ (i : Nat) (h : i < xs.length) (ρ : Env), I i ρ → Stp (I (i + 1)) (body ((ρ.set j1 (.im (c1 xs[i]))).set j2 (.im (c2 xs[i]))))) : ∃ ρ', forD s (.tp [j1, j2]) body ρ = .nx ρ' ∧ I xs.length ρ' := by
  have h := for_ex (b := .tp [j1, j2]) (body := body) I hs h0 fun i h ρ hI => by
    obtain ⟨ρ2, e2, h2⟩ := st i (by simpa using h) ρ hI
    refine ⟨_, ?_, ρ2, e2, h2⟩
    simp [bindT, setAll]
  simpa using h
theorem fin_forT {α : Type} (I : Nat → Env → Prop) (xs : List α) (c1 c2 : α → PD) {s : LD} {j1 j2 : Nat} {body B : SD} {ρ : Env} {o : Out R} (hs : s ρ = .ok (xs.map fun x => .tuple [c1 x, c2 x])) (h0 : I 0 ρ)
    (st : ∀ (i : Nat) (h : i < xs.length) (ρ : Env), I i ρ → Stp (I (i + 1)) (body ((ρ.set j1 (.im (c1 xs[i]))).set j2 (.im (c2 xs[i])))))
    (k : ∀ ρ', I xs.length ρ' → fin (B ρ') = o) : fin (seqD (forD s (.tp [j1, j2]) body) B ρ) = o := by
  obtain ⟨ρ', e, h⟩ := for_tp I xs c1 c2 hs h0 st
  rw [seq_of e]
  exact k ρ' h
theorem stp_forTE {α : Type} {J : Env → Prop} (I : Nat → Env → Prop) (xs : List α) (c1 c2 : α → PD) {s : LD} {j1 j2 : Nat} {body : SD} {ρ : Env} (hs : s ρ = .ok (xs.map fun x => .tuple [c1 x, c2 x])) (h0 : I 0 ρ)
    (st : ∀ (i : Nat) (h : i < xs.length) (ρ : Env), I i ρ → Stp (I (i + 1)) (body ((ρ.set j1 (.im (c1 xs[i]))).set j2 (.im (c2 xs[i])))))
    (k : ∀ ρ', I xs.length ρ' → J ρ') : Stp J (forD s (.tp [j1, j2]) body ρ) := by
  obtain ⟨ρ', e, h⟩ := for_tp I xs c1 c2 hs h0 st
  rw [e]
  exact stp_nx (k ρ' h)
/-! ### loops that may be left by one answer -/
theorem for_all {α : Type} {b : Tg} (I : Env → Prop) (c : α → PD) (bd : α → Env → Env) (p : α → Bool) (r : R) {s : LD} {body : SD} (hb : ∀ x ρ, bindT b (c x) ρ = some (bd x ρ)) : ∀ (xs : List α) (ρ : Env), I ρ →
    (∀ x ∈ xs, ∀ ρ, I ρ → (p x = true → Stp I (body (bd x ρ))) ∧ (p x = false → body (bd x ρ) = .rt r)) →
    (xs.all p = true → ∃ ρ', forL b body (xs.map c) ρ = .nx ρ' ∧ I ρ') ∧ (xs.all p = false → forL b body (xs.map c) ρ = .rt r)
  | [], ρ, h0, _ => ⟨fun _ => ⟨ρ, rfl, h0⟩, fun h => by simp at h⟩
  | x :: xs, ρ, h0, st => by
    have h1 := st x List.mem_cons_self ρ h0
    simp only [List.map_cons, List.all_cons]
    unfold forL
    rw [hb]
    cases hp : p x with
    | true =>
      obtain ⟨ρ2, e2, h2⟩ := h1.1 hp
      have ih := for_all I c bd p r (s := s) (body := body) hb xs ρ2 h2 fun y hy => st y (List.mem_cons_of_mem _ hy)
      rcases e2 with e2 | e2
      · simp only [e2, Bool.true_and]; exact ih
      · simp only [e2, Bool.true_and]; exact ih
    | false =>
      refine ⟨fun h => by simp at h, fun _ => ?_⟩
      simp only [h1.2 hp]
theorem fin_all {α : Type} {b : Tg} (I : Env → Prop) (xs : List α) (c : α → PD) (bd : α → Env → Env) (p : α → Bool) (r : R) {s : LD} {body B : SD} {ρ : Env} {o : Out R} (hb : ∀ x ρ, bindT b (c x) ρ = some (bd x ρ)) (hs : s ρ = .ok (xs.map c)) (h0 : I ρ)
    (st : ∀ x ∈ xs, ∀ ρ, I ρ → (p x = true → Stp I (body (bd x ρ))) ∧ (p x = false → body (bd x ρ) = .rt r)) (k : ∀ ρ', I ρ' → fin (B ρ') = o) :
    fin (seqD (forD s b body) B ρ) = if xs.all p then o else .ok r := by
  have h := for_all (s := s) I c bd p r hb xs ρ h0 st
  unfold seqD forD
  rw [hs]
  cases e : xs.all p with
  | true =>
    obtain ⟨ρ', e1, h1⟩ := h.1 e
    simp only [e1, if_true]
    exact k ρ' h1
  | false =>
    simp only [h.2 e]
    rfl
/-! ### pairs of numbers -/
abbrev PP (p : Nat × Nat) : PD := .tuple [.int (p.1 : Nat), .int (p.2 : Nat)]
theorem enumP_LL (rs : List (List Int)) : enumP (rs.map fun ns => L1 ns) = (List.range rs.length).map fun (i : Nat) => PyData.tuple [.int (i : Nat), L1 (rs.getD i [])] := by
  apply List.ext_getElem
  · simp [enumP]
  · intro i h1 h2
    have hi : i < rs.length := by simpa using h2
    simp [enumP, List.getD_eq_getElem?_getD, hi]
@[simp] theorem un_en (e : ED) (ρ : Env) : enD e ρ = (itD e ρ).bind fun ds => .ok (enumP ds) := rfl
@[simp] theorem ixF_ro2 (l : List (List (List PD))) (i : Int) : ixF (.ro 2 l) i = (atI l i).map fun (u : List (List PD)) => R.ro 1 u := rfl
@[simp] theorem kit5 : kitB "bool" "bool" = some true := by decide +kernel
@[simp] theorem kit6 : kitB "bool" "int" = some true := by decide +kernel
theorem eqv_bool (i j : Bool) : PyData.eqv (.bool i) (.bool j) = decide (i = j) := by cases i <;> cases j <;> rfl
@[simp] theorem eqF_bool (i j : Bool) : eqF (.bool i) (.bool j) = some (.bool (decide (i = j))) := by simp only [eqF, shp_bool, eqv_bool]; rfl
@[simp] theorem neF_bool (i j : Bool) : neF (.bool i) (.bool j) = some (.bool (!decide (i = j))) := by simp only [neF, shp_bool, eqv_bool]; rfl
/-! ### [a, b] of tables -/
def joinF (n : Nat) (r1 r2 : R) : Out R := match r1.asFr n, r2.asFr n with
  | some a, some b => .ok (.fr (n + 1) [a, b])
  | _, _ => .st
@[simp] theorem un_lstF2 (n : Nat) (e1 e2 : ED) (ρ : Env) : lstF2 n e1 e2 ρ = (e1 ρ).bind fun r1 => (e2 ρ).bind fun r2 => joinF n r1 r2 := rfl
@[simp] theorem join_1 (a b : List (List PD)) : joinF 1 (.fr 1 a) (.fr 1 b) = .ok (.fr 2 (@List.cons (List (List PD)) a [b])) := rfl
def joinR (n : Nat) (rs : List R) : Out R := match ros n rs with
  | some ts => if rs.length ≤ 100000 then .ok (.ro (n + 1) ts) else .st
  | none => .st
@[simp] theorem un_lstR (n : Nat) (a : AD) (ρ : Env) : lstRD n a ρ = (a ρ).bind fun rs => joinR n rs := rfl
@[simp] theorem joinR_1 (a b : List (List PD)) : joinR 1 [.ro 1 a, .ro 1 b] = .ok (.ro 2 (@List.cons (List (List PD)) a [b])) := rfl
theorem shp_2 (a b : List (List Int)) : shp (.list [LL a, LL b]) = true := by
  have h1 := shp_LL a
  have h2 := shp_LL b
  have d1 := depth_LL a
  have d2 := depth_LL b
  simp only [shp, SeqAt.shaped, Bool.and_eq_true, decide_eq_true_eq] at h1 h2 ⊢
  simp only [noD, noDs, PyData.canLay0, PyData.canLayAll0, PyData.depth, PyData.depthAll, Bool.and_eq_true] at h1 h2 ⊢
  refine ⟨⟨h1.1, h2.1, trivial⟩, ⟨h1.2.1, h2.2.1, trivial⟩, ?_⟩
  omega
theorem eqv_2 (a b c d : List (List Int)) : PyData.eqv (.list [LL a, LL b]) (.list [LL c, LL d]) = (decide (a = c) && decide (b = d)) := by
  have h1 := eqv_LL a c
  have h2 := eqv_LL b d
  simp only [PyData.eqv, PyData.eqvAll] at h1 h2 ⊢
  rw [h1, h2, Bool.and_true]
@[simp] theorem neF_2 (a b c d : List (List Int)) : neF (.list [LL a, LL b]) (.list [LL c, LL d]) = some (.bool (!(decide (a = c) && decide (b = d)))) := by
  simp only [neF, shp_2, eqv_2]
  rfl
@[simp] theorem eqF_2 (a b c d : List (List Int)) : eqF (.list [LL a, LL b]) (.list [LL c, LL d]) = some (.bool (decide (a = c) && decide (b = d))) := by
  simp only [eqF, shp_2, eqv_2]
  rfl
theorem ixQ_ok {i n : Nat} {q : QD} {e : ED} {ρ : Env} {p : List Nat} {t : Ty (n + 1)} {l k : Nat} (hq : q ρ = .ok p) (h1 : ρ[i]? = some (.ow n t)) (h2 : e ρ = .ok (.im (.int (k : Nat)))) (hl : lenP n t p = some l) (hk : k < l) : ixQ i q e ρ = .ok (p ++ [k]) := by
  have e3 : ixN l (k : Int) = some k := by
    unfold ixN
    rw [if_pos (by omega), if_pos (by omega)]
    rfl
  unfold ixQ
  rw [hq, bind_ok, h2, bind_ok]
  simp only [e_dat1, h1, hl, e3]
/-- a cell of the first of two tables -/
theorem set_cell {i : Nat} {ρ : Env} {A B : List (List PD)} {k j : Nat} {u : List PD} {d : PD} {e2 ix e : ED} (h1 : ρ[i]? = some (.ow 2 (@List.cons (List (List PD)) A [B]))) (h2 : e2 ρ = .ok (.im (.int k))) (h3 : A[k]? = some u) (h4 : ix ρ = .ok (.im (.int j))) (h5 : j < u.length) (h6 : e ρ = .ok (.im d)) :
    setD i (ixQ i (ixQ i (ownQ i) (cD (.int 0))) e2) ix e ρ = .nx (ρ.set i (.ow 2 (@List.cons (List (List PD)) (A.set k (u.set j d)) [B]))) := by
  have hk : k < A.length := by
    rcases Nat.lt_or_ge k A.length with h | h
    · exact h
    · rw [List.getElem?_eq_none h] at h3; cases h3
  have q0 : ownQ i ρ = .ok [] := by unfold ownQ; rw [h1]
  have q1 : ixQ i (ownQ i) (cD (.int 0)) ρ = .ok [0] := ixQ_ok (k := 0) q0 h1 rfl (show lenP 2 (@List.cons (List (List PD)) A [B]) [] = some 2 from rfl) (by omega)
  have q2 : ixQ i (ixQ i (ownQ i) (cD (.int 0))) e2 ρ = .ok [0, k] := ixQ_ok q1 h1 h2 (show lenP 2 (@List.cons (List (List PD)) A [B]) [0] = some A.length from rfl) hk
  have e4 : modP (stF (j : Int) d) 2 (@List.cons (List (List PD)) A [B]) [0, k] = some (@List.cons (List (List PD)) (A.set k (u.set j d)) [B]) := by
    have m0 : modP (stF (j : Int) d) 0 u [] = some (u.set j d) := by
      show (ixN u.length (j : Int)).map (fun j => u.set j d) = _
      unfold ixN
      rw [if_pos (by omega), if_pos (by omega)]
      rfl
    have m1 := modP_cons (stF (j : Int) d) 0 A k [] u h3
    rw [m0] at m1
    have m2 := modP_cons (stF (j : Int) d) 1 (@List.cons (List (List PD)) A [B]) 0 [k] A rfl
    refine m2.trans ?_
    rw [m1]
    rfl
  unfold setD
  simp only [h6, bindS_ok, q2, bindQ_ok, h4, e_dat1, stR, upE, h1]
  rw [e4]
/-! ### slices -/
@[simp] theorem un_noO (ρ : Env) : noO ρ = .ok none := rfl
@[simp] theorem un_soO (a : ED) (ρ : Env) : soO a ρ = (a ρ).bind fun r => match r.dat with
  | .int i => .ok (some i)
  | _ => .st := rfl
@[simp] theorem un_sl (a : ED) (l u : OD) (ρ : Env) : slD a l u ρ = (a ρ).bind fun r => (l ρ).bind fun lo => (u ρ).bind fun hi => match kidsS r.fz with
  | some ds => .ok (.fr 0 (@cutL PD ds lo hi))
  | none => .st := rfl
@[simp] theorem cut_1 {α : Type} (xs : List α) : cutL xs (some 1) none = xs.drop 1 := by
  have e : HT.sIx xs.length 0 (some (1 : Int)) = min 1 xs.length := HT.sIx_nat _ _ 1
  unfold cutL
  rw [e, HT.sIx_none]
  cases xs with
  | nil => rfl
  | cons a b =>
    have : min 1 (a :: b).length = 1 := by simp
    rw [this]
    simp
theorem cut_last {α : Type} (xs : List α) (a : α) : cutL (xs ++ [a]) none (some (-1)) = xs := by
  have e : HT.sIx (xs ++ [a]).length (xs ++ [a]).length (some (-1 : Int)) = xs.length := by
    show (if (-1 : Int) < 0 then ((-1 : Int) + ((xs ++ [a]).length : Nat)).toNat else min (-1 : Int).toNat (xs ++ [a]).length) = _
    rw [if_pos (by omega)]
    simp
    omega
  unfold cutL
  rw [e, HT.sIx_none]
  simp
/-- a row of the second of two tables -/
theorem set_row {i : Nat} {ρ : Env} {A B : List (List PD)} {k : Nat} {u : List PD} {ix e : ED} (h1 : ρ[i]? = some (.ow 2 (@List.cons (List (List PD)) A [B]))) (h4 : ix ρ = .ok (.im (.int k))) (h5 : k < B.length) (h6 : e ρ = .ok (.fr 0 u)) :
    setD i (ixQ i (ownQ i) (cD (.int 1))) ix e ρ = .nx (ρ.set i (.ow 2 (@List.cons (List (List PD)) A [B.set k u]))) := by
  have q0 : ownQ i ρ = .ok [] := by unfold ownQ; rw [h1]
  have q1 : ixQ i (ownQ i) (cD (.int 1)) ρ = .ok [1] := ixQ_ok (k := 1) q0 h1 rfl (show lenP 2 (@List.cons (List (List PD)) A [B]) [] = some 2 from rfl) (by omega)
  have e4 : modP (stN (k : Int) 0 u) 2 (@List.cons (List (List PD)) A [B]) [1] = some (@List.cons (List (List PD)) A [B.set k u]) := by
    have m0 : modP (stN (k : Int) 0 u) 1 B [] = some (B.set k u) := by
      show stN (k : Int) 0 u 1 B = _
      unfold stN
      simp only [dite_true]
      show (ixN B.length (k : Int)).map (fun j => B.set j u) = _
      unfold ixN
      rw [if_pos (by omega), if_pos (by omega)]
      rfl
    have m2 := modP_cons (stN (k : Int) 0 u) 1 (@List.cons (List (List PD)) A [B]) 1 [] B rfl
    refine m2.trans ?_
    rw [m0]
    rfl
  unfold setD
  simp only [h6, bindS_ok, q1, bindQ_ok, h4, e_dat1, stR, upE, h1]
  rw [e4]
/-! ### lists of pairs, compared -/
theorem noDs_pp (ps : List (Nat × Nat)) : noDs (ps.map PP) = true := by
  induction ps with
  | nil => rfl
  | cons n ns ih => simp [noDs, noD] at ih ⊢; exact ih
theorem canLay_pp (ps : List (Nat × Nat)) : PyData.canLayAll0 (ps.map PP) = true := by
  induction ps with
  | nil => rfl
  | cons n ns ih => simp [PyData.canLayAll0, PyData.canLay0] at ih ⊢; exact ih
theorem depth_pp (ps : List (Nat × Nat)) : PyData.depthAll (ps.map PP) ≤ 1 := by
  induction ps with
  | nil => simp [PyData.depthAll]
  | cons n ns ih => simp [PyData.depthAll, PyData.depth] at ih ⊢; omega
theorem shp_pp (ps : List (Nat × Nat)) : shp (.list (ps.map PP)) = true := by
  have h := depth_pp ps
  have h2 : PyData.depthAll (ps.map PP) + 1 ≤ 64 := by omega
  simp only [shp, noD, SeqAt.shaped, PyData.canLay0, PyData.depth, noDs_pp, canLay_pp, Bool.true_and, h2, decide_true]
theorem eqv_pps : ∀ (a b : List (Nat × Nat)), PyData.eqvAll (a.map PP) (b.map PP) = decide (a = b)
  | [], [] => by simp [PyData.eqvAll]
  | [], _ :: _ => by simp [PyData.eqvAll]
  | _ :: _, [] => by simp [PyData.eqvAll]
  | x :: xs, y :: ys => by
    have ih := eqv_pps xs ys
    simp only [List.map_cons, PyData.eqvAll, ih]
    have h1 : PyData.eqv (PP x) (PP y) = decide (x = y) := by
      obtain ⟨a, b⟩ := x
      obtain ⟨c, d⟩ := y
      simp only [PP, PyData.eqv, PyData.eqvAll, Bool.and_true]
      by_cases h1 : a = c <;> by_cases h2 : b = d <;> simp [h1, h2] <;> omega
    rw [h1]
    by_cases h1 : x = y <;> by_cases h2 : xs = ys <;> simp [h1, h2]
@[simp] theorem neF_pp (a b : List (Nat × Nat)) : neF (.list (a.map PP)) (.list (b.map PP)) = some (.bool (!decide (a = b))) := by
  simp only [neF, shp_pp, PyData.eqv, eqv_pps]
  rfl
@[simp] theorem eqF_pp (a b : List (Nat × Nat)) : eqF (.list (a.map PP)) (.list (b.map PP)) = some (.bool (decide (a = b))) := by
  simp only [eqF, shp_pp, PyData.eqv, eqv_pps]
  rfl
@[simp] theorem lf_tuple (ds : List PD) : lf (.tuple ds) = lfs ds := by simp [lf]
@[simp] theorem lfs_nil : lfs [] = true := by simp [lfs]
@[simp] theorem lfs_cons (d : PD) (ds : List PD) : lfs (d :: ds) = (lf d && lfs ds) := by simp [lfs]
@[simp] theorem all_pp (ps : List (Nat × Nat)) : (ps.map PP).all lf = true := by
  rw [List.all_eq_true]
  intro d hd
  obtain ⟨p, _, rfl⟩ := List.mem_map.mp hd
  simp [lf, lfs]
@[simp] theorem neF_none : neF .none .none = some (.bool false) := by
  simp only [neF, shp_none]
  rfl
end Z

/-! ## M3 -/
set_option Elab.async false
set_option linter.all false
set_option maxRecDepth 100000
set_option maxHeartbeats 1000000
namespace Z
open PySem PySem.Spec PyProof.Rows L2
/-! ### numbers of heirs -/
abbrev TN (l : List Nat) : List PD := l.map fun (k : Nat) => PyData.int (k : Int)
abbrev LN (l : List Nat) : PD := .list (TN l)
theorem TN_eq (l : List Nat) : TN l = T1 (l.map fun (k : Nat) => (k : Int)) := by simp [TN, T1]
/-! ### a pair among pairs -/
theorem shp_PP (p : Nat × Nat) : shp (PP p) = true := by
  simp [shp, noD, noDs, SeqAt.shaped, PyData.canLay0, PyData.canLayAll0, PyData.depth, PyData.depthAll]
theorem eqv_PP (x y : Nat × Nat) : PyData.eqv (PP x) (PP y) = decide (x = y) := by
  obtain ⟨a, b⟩ := x
  obtain ⟨c, d⟩ := y
  simp only [PP, PyData.eqv, PyData.eqvAll, Bool.and_true]
  by_cases h1 : a = c <;> by_cases h2 : b = d <;> simp [h1, h2] <;> omega
theorem inF_pp (p : Nat × Nat) (ps : List (Nat × Nat)) : inF (PP p) (.list (ps.map PP)) = some (.bool (decide (p ∈ ps))) := by
  unfold inF
  simp only [shp_PP, shp_pp, Bool.and_self, if_true]
  congr 2
  rw [List.any_map]
  induction ps with
  | nil => simp
  | cons q qs ih =>
    simp only [List.any_cons, fcomp] at ih ⊢
    rw [ih, eqv_PP]
    by_cases h1 : q = p <;> by_cases h2 : p ∈ qs <;> simp [h1, h2]
    intro h
    exact h1 h.symm
/-! ### the first that .. is answered -/
theorem for_find {α : Type} {b : Tg} (I : Env → Prop) (c : α → PD) (bd : α → Env → Env) (p : α → Bool) (r : α → R) {body : SD} (hb : ∀ x ρ, bindT b (c x) ρ = some (bd x ρ)) : ∀ (xs : List α) (ρ : Env), I ρ →
    (∀ x ∈ xs, ∀ ρ, I ρ → (p x = false → Stp I (body (bd x ρ))) ∧ (p x = true → body (bd x ρ) = .rt (r x))) →
    match xs.find? p with
    | some x => forL b body (xs.map c) ρ = .rt (r x)
    | none => ∃ ρ', forL b body (xs.map c) ρ = .nx ρ' ∧ I ρ'
  | [], ρ, h0, _ => ⟨ρ, rfl, h0⟩
  | x :: xs, ρ, h0, st => by
    have h1 := st x List.mem_cons_self ρ h0
    simp only [List.map_cons, List.find?_cons]
    unfold forL
    rw [hb]
    cases hp : p x with
    | false =>
      obtain ⟨ρ2, e2, h2⟩ := h1.1 hp
      have ih := for_find I c bd p r (body := body) hb xs ρ2 h2 fun y hy => st y (List.mem_cons_of_mem _ hy)
      rcases e2 with e2 | e2
      · simp only [e2]; exact ih
      · simp only [e2]; exact ih
    | true => simp only [h1.2 hp]
theorem fin_find {α : Type} {b : Tg} (I : Env → Prop) (xs : List α) (c : α → PD) (bd : α → Env → Env) (p : α → Bool) (r : α → R) {s : LD} {body B : SD} {ρ : Env} {o : Out R} (hb : ∀ x ρ, bindT b (c x) ρ = some (bd x ρ)) (hs : s ρ = .ok (xs.map c)) (h0 : I ρ)
    (st : ∀ x ∈ xs, ∀ ρ, I ρ → (p x = false → Stp I (body (bd x ρ))) ∧ (p x = true → body (bd x ρ) = .rt (r x))) (k : ∀ ρ', I ρ' → fin (B ρ') = o) :
    fin (seqD (forD s b body) B ρ) = match xs.find? p with
      | some x => .ok (r x)
      | none => o := by
  have h := for_find I c bd p r hb xs ρ h0 st
  unfold seqD forD
  rw [hs]
  cases e : xs.find? p with
  | none =>
    rw [e] at h
    obtain ⟨ρ', e1, h1⟩ := h
    simp only [e1]
    exact k ρ' h1
  | some x =>
    rw [e] at h
    simp only [h]
    rfl
/-! ### a while by a number that falls -/
theorem while_inv {t : TD} {body : SD} (I : Nat → Env → Prop) (Done : Env → Prop) (st : ∀ k ρ, I k ρ → (t ρ = .ok false ∧ Done ρ) ∨ (∃ j, k = j + 1 ∧ t ρ = .ok true ∧ Stp (I j) (body ρ))) : ∀ (k N : Nat) (ρ : Env), k < N → I k ρ → ∃ ρ', whileN t body N ρ = .nx ρ' ∧ Done ρ'
  | k, 0, _, h, _ => absurd h (Nat.not_lt_zero k)
  | k, N + 1, ρ, h, hI => by
    unfold whileN
    rcases st k ρ hI with ⟨e, d⟩ | ⟨j, ej, e, ρ2, e2, h2⟩
    · rw [e]
      exact ⟨ρ, rfl, d⟩
    · rw [e]
      have ih := while_inv I Done st j N ρ2 (by omega) h2
      rcases e2 with e2 | e2
      · simp only [e2]; exact ih
      · simp only [e2]; exact ih
@[simp] theorem seq_rem (i : Nat) (e : ED) (B : SD) (ρ : Env) : seqD (remD i e) B ρ = match remD i e ρ with
    | .nx ρ' => B ρ'
    | o => o := rfl
theorem erase_cast : ∀ (l : List Nat) (x : Nat), (l.map fun (k : Nat) => (k : Int)).erase (x : Int) = (l.erase x).map fun (k : Nat) => (k : Int)
  | [], _ => rfl
  | a :: l, x => by
    by_cases h : a = x
    · subst h
      simp
    · have h2 : ¬((a : Int) = x) := by omega
      rw [List.map_cons, List.erase_cons_tail (by simpa using h2), List.erase_cons_tail (by simpa using h), List.map_cons, erase_cast l x]
theorem rem_nat {i : Nat} {ρ : Env} {l : List Nat} {x : Nat} {e : ED} (h1 : ρ[i]? = some (.ow 0 (TN l))) (h2 : e ρ = .ok (.im (.int (x : Nat)))) (h3 : x ∈ l) : remD i e ρ = .nx (ρ.set i (.ow 0 (TN (l.erase x)))) := by
  have e1 : intsOf (TN l) = some (l.map fun (k : Nat) => (k : Int)) := intsOf_mapf _ l
  have m : (x : Int) ∈ (l.map fun (k : Nat) => (k : Int)) := List.mem_map_of_mem h3
  unfold remD
  simp only [h2, noX_ok, bindS_ok, e_dat1, h1]
  have e2 : (match intsOf (TN l) with
    | some ns => if (x : Int) ∈ ns then SO.nx (ρ.set i (.ow 0 (@List.map Int PD PyData.int (ns.erase (x : Int))))) else .st
    | none => .st) = .nx (ρ.set i (.ow 0 (TN (l.erase x)))) := by
    rw [e1]
    simp only [m, if_true, erase_cast]
    rw [TN_eq]
  exact e2
theorem lcD_filt {s : LD} {vs : List Nat} {k : Tg} {t : TD} {e : ED} {ρ : Env} {α : Type} (xs : List α) (c g : α → PD) (p : α → Bool) (hs : s ρ = .ok (xs.map c)) (hl : xs.length ≤ 100000)
    (h : ∀ x ∈ xs, ∃ ρ1, bindT k (c x) (wipeE ρ vs) = some ρ1 ∧ t ρ1 = .ok (p x) ∧ (p x = true → e ρ1 = .ok (.im (g x)))) : lcD s vs k t e ρ = .ok (.fr 0 (@List.map α PD g (xs.filter p))) := by
  unfold lcD
  rw [hs]
  have : lcL k t e (wipeE ρ vs) (xs.map c) = .ok ((xs.filter p).map g) := by
    clear hs hl
    induction xs with
    | nil => rfl
    | cons x xs ih =>
      obtain ⟨ρ1, e1, e2, e3⟩ := h x List.mem_cons_self
      have ih' := ih fun x hx => h x (List.mem_cons_of_mem _ hx)
      simp only [List.map_cons]
      unfold lcL
      rw [e1]
      cases c : p x with
      | true => simp only [e2, c, noX_ok, bind_ok, if_true, e3 c, e_fz1, ih', List.filter_cons_of_pos, List.map_cons]
      | false => simp only [e2, c, noX_ok, bind_ok, Bool.false_eq_true, if_false, ih', List.filter_cons, List.map_cons]
  have len : ((xs.filter p).map g).length ≤ 100000 := by
    rw [List.length_map]
    exact Nat.le_trans (List.length_filter_le _ _) hl
  rw [bind_ok, this, bind_ok, if_pos len]
theorem shp_LN (l : List Nat) : shp (.list (TN l)) = true := by
  rw [TN_eq]
  exact shp_L1 _
theorem any_int (l : List Nat) (h : Nat) : ((TN l).any fun z => PyData.eqv z (.int (h : Int))) = decide (h ∈ l) := by
  induction l with
  | nil => simp
  | cons a l ih =>
    simp only [TN, List.map_cons, List.any_cons] at ih ⊢
    rw [ih, eqv_int]
    by_cases h1 : a = h
    · subst h1; simp
    · have h2 : ¬((a : Int) = h) := by omega
      have h3 : ¬h = a := fun e => h1 e.symm
      simp [h2, h3]
theorem niF_nat (l : List Nat) (h : Nat) : niF (.int (h : Int)) (.list (TN l)) = some (.bool (!decide (h ∈ l))) := by
  unfold niF
  simp only [shp_int, shp_LN, Bool.and_self, if_true, any_int]
theorem inF_nat (l : List Nat) (h : Nat) : inF (.int (h : Int)) (.list (TN l)) = some (.bool (decide (h ∈ l))) := by
  unfold inF
  simp only [shp_int, shp_LN, Bool.and_self, if_true, any_int]
theorem index_nat (l : List Nat) (h : Nat) (hm : h ∈ l) : indexF (TN l) (.int (h : Int)) = some (.int (l.idxOf h : Nat)) := by
  have : (TN l).findIdx? (fun z => PyData.eqv z (.int (h : Int))) = some (l.idxOf h) := by
    induction l with
    | nil => cases hm
    | cons a l ih =>
      simp only [TN, List.map_cons, List.findIdx?_cons, eqv_int]
      by_cases h1 : a = h
      · subst h1; simp
      · have h2 : ¬((a : Int) = h) := by omega
        have hm' : h ∈ l := by
          rcases List.mem_cons.mp hm with e | e
          · exact absurd e.symm h1
          · exact e
        have h3 : (a == h) = false := by simpa using h1
        simp only [h2, decide_false, Bool.false_eq_true, if_false]
        have ih' := ih hm'
        simp only [TN] at ih'
        rw [ih']
        simp [List.idxOf_cons, h3]
  unfold indexF
  simp only [shp_LN, shp_int, Bool.and_self, if_true, this]
  rfl
theorem cut_from {α : Type} (xs : List α) (p : Nat) (h : p ≤ xs.length) : cutL xs (some (p : Int)) none = xs.drop p := by
  have e : HT.sIx xs.length 0 (some (p : Int)) = min p xs.length := HT.sIx_nat _ _ p
  unfold cutL
  rw [e, HT.sIx_none, Nat.min_eq_left h]
  exact List.take_of_length_le (by simp)
@[simp] theorem all_tt {α : Type} (l : List α) : (l.all fun _ => true) = true := List.all_eq_true.mpr fun _ _ => rfl
theorem neF_self (l : List Nat) : neF (.list (TN l)) (.list (TN l)) = some (.bool false) := by
  rw [TN_eq]
  have := neF_L1 (l.map fun (k : Nat) => (k : Int)) (l.map fun (k : Nat) => (k : Int))
  simpa using this
/-- a cell of an own table -/
theorem set_cell1 {i : Nat} {ρ : Env} {A : List (List PD)} {k j : Nat} {u : List PD} {d : PD} {e2 ix e : ED} (h1 : ρ[i]? = some (.ow 1 A)) (h2 : e2 ρ = .ok (.im (.int k))) (h3 : A[k]? = some u) (h4 : ix ρ = .ok (.im (.int j))) (h5 : j < u.length) (h6 : e ρ = .ok (.im d)) :
    setD i (ixQ i (ownQ i) e2) ix e ρ = .nx (ρ.set i (.ow 1 (A.set k (u.set j d)))) := by
  have hk : k < A.length := by
    rcases Nat.lt_or_ge k A.length with h | h
    · exact h
    · rw [List.getElem?_eq_none h] at h3; cases h3
  have q0 : ownQ i ρ = .ok [] := by unfold ownQ; rw [h1]
  have q1 : ixQ i (ownQ i) e2 ρ = .ok [k] := ixQ_ok q0 h1 h2 (show lenP 1 A [] = some A.length from rfl) hk
  have e4 : modP (stF (j : Int) d) 1 A [k] = some (A.set k (u.set j d)) := by
    have m0 : modP (stF (j : Int) d) 0 u [] = some (u.set j d) := by
      show (ixN u.length (j : Int)).map (fun j => u.set j d) = _
      unfold ixN
      rw [if_pos (by omega), if_pos (by omega)]
      rfl
    have m1 := modP_cons (stF (j : Int) d) 0 A k [] u h3
    rw [m0] at m1
    exact m1
  unfold setD
  simp only [h6, bindS_ok, q1, bindQ_ok, h4, e_dat1, stR, upE, h1]
  rw [e4]
end Z

/-! ## M4 -/
set_option Elab.async false
set_option linter.all false
set_option maxRecDepth 100000
set_option maxHeartbeats 1000000
namespace Z
open PySem PySem.Spec PyProof.Rows L2
/-! ### loops that may be left by one refusal -/
theorem for_anyX {α : Type} {b : Tg} (I : Env → Prop) (c : α → PD) (bd : α → Env → Env) (p : α → Bool) (x : String) {body : SD} (hb : ∀ x ρ, bindT b (c x) ρ = some (bd x ρ)) : ∀ (xs : List α) (ρ : Env), I ρ →
    (∀ y ∈ xs, ∀ ρ, I ρ → (p y = false → Stp I (body (bd y ρ))) ∧ (p y = true → body (bd y ρ) = .ex x)) →
    (xs.any p = true → forL b body (xs.map c) ρ = .ex x) ∧ (xs.any p = false → ∃ ρ', forL b body (xs.map c) ρ = .nx ρ' ∧ I ρ')
  | [], ρ, h0, _ => ⟨fun h => by simp at h, fun _ => ⟨ρ, rfl, h0⟩⟩
  | y :: xs, ρ, h0, st => by
    have h1 := st y List.mem_cons_self ρ h0
    simp only [List.map_cons, List.any_cons]
    unfold forL
    rw [hb]
    cases hp : p y with
    | false =>
      obtain ⟨ρ2, e2, h2⟩ := h1.1 hp
      have ih := for_anyX I c bd p x (body := body) hb xs ρ2 h2 fun z hz => st z (List.mem_cons_of_mem _ hz)
      rcases e2 with e2 | e2
      · simp only [e2, Bool.false_or]; exact ih
      · simp only [e2, Bool.false_or]; exact ih
    | true => exact ⟨fun _ => by simp only [h1.2 hp], fun h => by simp at h⟩
theorem fin_anyX {α : Type} {b : Tg} (I : Env → Prop) (xs : List α) (c : α → PD) (bd : α → Env → Env) (p : α → Bool) (x : String) {s : LD} {body B : SD} {ρ : Env} {o : Out R} (hb : ∀ x ρ, bindT b (c x) ρ = some (bd x ρ)) (hs : s ρ = .ok (xs.map c)) (h0 : I ρ)
    (st : ∀ y ∈ xs, ∀ ρ, I ρ → (p y = false → Stp I (body (bd y ρ))) ∧ (p y = true → body (bd y ρ) = .ex x)) (k : xs.any p = false → ∀ ρ', I ρ' → fin (B ρ') = o) :
    fin (seqD (forD s b body) B ρ) = if xs.any p then .ex x else o := by
  have h := for_anyX I c bd p x hb xs ρ h0 st
  unfold seqD forD
  rw [hs]
  cases e : xs.any p with
  | false =>
    obtain ⟨ρ', e1, h1⟩ := h.2 e
    simp only [e1, Bool.false_eq_true, if_false]
    exact k e ρ' h1
  | true =>
    simp only [h.1 e]
    rfl
theorem fin_anyXE {α : Type} {b : Tg} (I : Env → Prop) (xs : List α) (c : α → PD) (bd : α → Env → Env) (p : α → Bool) (x : String) {s : LD} {body : SD} {ρ : Env} (hb : ∀ x ρ, bindT b (c x) ρ = some (bd x ρ)) (hs : s ρ = .ok (xs.map c)) (h0 : I ρ)
    (st : ∀ y ∈ xs, ∀ ρ, I ρ → (p y = false → Stp I (body (bd y ρ))) ∧ (p y = true → body (bd y ρ) = .ex x)) :
    fin (forD s b body ρ) = if xs.any p then .ex x else .ok (.im .none) := by
  have h := for_anyX I c bd p x hb xs ρ h0 st
  unfold forD
  rw [hs]
  cases e : xs.any p with
  | false =>
    obtain ⟨ρ', e1, h1⟩ := h.2 e
    simp only [e1, Bool.false_eq_true, if_false]
    rfl
  | true =>
    simp only [h.1 e]
    rfl
/-! ### words -/
@[simp] theorem un_callX (f : List PD → Out R) (a : AX) (ρ : Env) : callX f a ρ = match a ρ with
  | .ok ds ρ' => (match f ds with
    | .ok (.im d) => .ok (.im d) ρ'
    | .ok (.fr n t) => .ok (.fr n t) ρ'
    | .ok (.ro _ _) => .st
    | .ex c => .ex c ρ'
    | .st => .st)
  | .ex c ρ' => .ex c ρ'
  | .st => .st := rfl
@[simp] theorem un_callM (f : (m : Nat) → Z.Ty (m + 1) → List PD → Out R) (j : Nat) (a : AD) (ρ : Env) : callM f j a ρ = match ρ[j]? with
  | some (.ow m t) => (match noX (a ρ) with
    | .ok rs => if rs.all R.isIm then (match f m t (rs.map R.dat) with
      | .ok (.im d) => .ok (.im d) (ρ.set j .no)
      | .ok (.fr n t) => .ok (.fr n t) (ρ.set j .no)
      | .ok (.ro _ _) => .st
      | .ex c => .ex c (ρ.set j .no)
      | .st => .st)
      else .st
    | _ => .st)
  | _ => .st := rfl
@[simp] theorem un_ifX (t : TX) (a b : SD) (ρ : Env) : ifX t a b ρ = match t ρ with
  | .ok true ρ' => a ρ'
  | .ok false ρ' => b ρ'
  | .ex c ρ' => .ev c ρ'
  | .st => .st := rfl
@[simp] theorem seq_ifX (t : TX) (a b B : SD) (ρ : Env) : seqD (ifX t a b) B ρ = match t ρ with
  | .ok true ρ' => seqD a B ρ'
  | .ok false ρ' => seqD b B ρ'
  | .ex c ρ' => .ev c ρ'
  | .st => .st := by
  unfold seqD ifX
  cases t ρ with
  | ok c ρ' => cases c <;> rfl
  | ex c ρ' => rfl
  | st => rfl
@[simp] theorem un_asgX (i : Nat) (d : EX) (ρ : Env) : asgX i d ρ = match d ρ with
  | .ok (.im d) ρ' => .nx (ρ'.set i (.im d))
  | .ok (.fr n t) ρ' => .nx (ρ'.set i (.ow n t))
  | .ok (.ro _ _) _ => .st
  | .ex c ρ' => .ev c ρ'
  | .st => .st := rfl
@[simp] theorem seq_asgX (i : Nat) (d : EX) (B : SD) (ρ : Env) : seqD (asgX i d) B ρ = match d ρ with
  | .ok (.im d) ρ' => B (ρ'.set i (.im d))
  | .ok (.fr n t) ρ' => B (ρ'.set i (.ow n t))
  | .ok (.ro _ _) _ => .st
  | .ex c ρ' => .ev c ρ'
  | .st => .st := by
  unfold seqD asgX
  cases d ρ with
  | ok r ρ' => cases r <;> rfl
  | ex c ρ' => rfl
  | st => rfl
@[simp] theorem un_retX (d : EX) (ρ : Env) : retX d ρ = match d ρ with
  | .ok r ρ' => .rv r ρ'
  | .ex c ρ' => .ev c ρ'
  | .st => .st := rfl
@[simp] theorem seq_tryD (f : List PD → Out R) (a : AD) (i : Nat) (su : String → Option (Addr → SD)) (B : SD) (ρ : Env) : seqD (tryD f a i su) B ρ = match noX (a ρ) with
  | .ok rs => if rs.all R.isIm then (match f (rs.map R.dat) with
    | .ok _ => B ρ
    | .ex c => (match su c with
      | some s => (match s 0 (ρ.set i (.vv (.ref 0))) with
        | .nx ρ' => B (ρ'.set i .no)
        | .rt r => .rt r
        | _ => .st)
      | none => .st)
    | .st => .st)
    else .st
  | _ => .st := by
  unfold seqD tryD
  cases noX (a ρ) with
  | ok rs =>
    simp only
    split
    · rename_i ρ' e
      split at e
      · rename_i c
        rw [if_pos c]
        cases e2 : f (rs.map R.dat) with
        | ok r => rw [e2] at e; cases e; rfl
        | ex c =>
          rw [e2] at e
          simp only at e ⊢
          cases e3 : su c with
          | none => rw [e3] at e; cases e
          | some s =>
            rw [e3] at e
            simp only at e ⊢
            cases e4 : s 0 (ρ.set i (.vv (.ref 0))) with
            | nx ρ2 => rw [e4] at e; cases e; rfl
            | _ => rw [e4] at e; cases e
        | st => rw [e2] at e; cases e
      · cases e
    · rename_i o ho
      by_cases c : rs.all R.isIm = true
      · rw [if_pos c] at ho ⊢
        rw [if_pos c]
        cases e2 : f (rs.map R.dat) with
        | ok r => rw [e2] at ho; exact absurd rfl (ho ρ)
        | ex c =>
          rw [e2] at ho
          simp only at ho ⊢
          cases e3 : su c with
          | none => rfl
          | some s =>
            rw [e3] at ho
            simp only at ho ⊢
            cases e4 : s 0 (ρ.set i (.vv (.ref 0))) with
            | nx ρ2 => rw [e4] at ho; exact absurd rfl (ho _)
            | _ => rfl
        | st => rfl
      · rw [if_neg c, if_neg c]
  | ex c => rfl
  | st => rfl
@[simp] theorem isED_at (a : Addr) (i : Nat) (b : Bool) (ρ : Env) (h : ρ[i]? = some (.vv (.ref a))) : isED a i b ρ = .ok (.im (.bool b)) := by
  unfold isED
  rw [h]
  simp
@[simp] theorem un_rep (a b : ED) (ρ : Env) : repD a b ρ = (a ρ).bind fun r1 => (b ρ).bind fun r2 => match kids r1.fz, r2.dat with
  | some ds, .int k => if -1000 ≤ k ∧ k ≤ 1000 ∧ ds.length ≤ 100 then .ok (.fr 0 (repL k.toNat ds)) else .st
  | _, _ => .st := rfl
theorem out_fin (o : SO) : outS o = fin o := by cases o <;> rfl
theorem denM_eq (N k : Nat) (d : SD) (m : Nat) (t : Z.Ty (m + 1)) (ds : List PD) : denM N k d m t ds = fin (d (.ow m t :: ds.map Ent.im ++ List.replicate (N - (k + 1)) Ent.no)) := out_fin _
@[simp] theorem seq_retV (i : Nat) (B : SD) (ρ : Env) : seqD (retVD i) B ρ = retVD i ρ := by
  unfold seqD retVD
  cases e : ρ[i]? with
  | none => rfl
  | some en => cases en <;> rfl
@[simp] theorem seq_frz (i : Nat) (B : SD) (ρ : Env) : seqD (frzD i) B ρ = match ρ[i]? with
  | some (.ow n t) => B (ρ.set i (.im (Ty.dat (n + 1) t)))
  | _ => B ρ := by
  unfold seqD frzD
  cases e : ρ[i]? with
  | none => rfl
  | some en => cases en <;> rfl
@[simp] theorem seq_frz1 (i : Nat) (B : SD) (ρ : Env) : seqD (frz1D i) B ρ = match ρ[i]? with
  | some (.ow (n + 1) t) => B (ρ.set i (.ow 0 (@List.map (Z.Ty (n + 1)) PD (Ty.dat (n + 1)) t)))
  | _ => B ρ := by
  unfold seqD frz1D
  cases e : ρ[i]? with
  | none => rfl
  | some en =>
    cases en with
    | ow n t => cases n <;> rfl
    | _ => rfl
theorem dat1_map (l : List (List Int)) : (@List.map (Z.Ty 1) PD (Ty.dat 1) (T2 l)) = l.map fun r => L1 r := by
  induction l with
  | nil => rfl
  | cons a l ih => exact congr (congrArg List.cons (dat_one _)) ih
theorem seq_ift {t : TD} {a b B : SD} {ρ : Env} (h : t ρ = .ok true) : seqD (ifD t a b) B ρ = seqD a B ρ := by rw [seq_if, h]
theorem seq_iff {t : TD} {a b B : SD} {ρ : Env} (h : t ρ = .ok false) : seqD (ifD t a b) B ρ = seqD b B ρ := by rw [seq_if, h]
theorem seq_rt_ {a B : SD} {ρ : Env} {r : R} (h : a ρ = .rt r) : seqD a B ρ = .rt r := by unfold seqD; rw [h]
/-! ### an item set -/
theorem set_0 {i : Nat} {ρ : Env} {L : List PD} {k : Nat} {d : PD} {ix e : ED} (h1 : ρ[i]? = some (.ow 0 L)) (h4 : ix ρ = .ok (.im (.int k))) (h5 : k < L.length) (h6 : e ρ = .ok (.im d)) :
    setD i (ownQ i) ix e ρ = .nx (ρ.set i (.ow 0 (L.set k d))) := by
  have q0 : ownQ i ρ = .ok [] := by unfold ownQ; rw [h1]
  have m0 : modP (stF (k : Int) d) 0 L [] = some (L.set k d) := by
    show (ixN L.length (k : Int)).map (fun j => L.set j d) = _
    unfold ixN
    rw [if_pos (by omega), if_pos (by omega)]
    rfl
  unfold setD
  simp only [h6, bindS_ok, q0, bindQ_ok, h4, e_dat1, stR, upE, h1]
  rw [m0]
theorem set_1 {i : Nat} {ρ : Env} {A : List (List PD)} {k : Nat} {u : List PD} {ix e : ED} (h1 : ρ[i]? = some (.ow 1 A)) (h4 : ix ρ = .ok (.im (.int k))) (h5 : k < A.length) (h6 : e ρ = .ok (.fr 0 u)) :
    setD i (ownQ i) ix e ρ = .nx (ρ.set i (.ow 1 (A.set k u))) := by
  have q0 : ownQ i ρ = .ok [] := by unfold ownQ; rw [h1]
  have m0 : modP (stN (k : Int) 0 u) 1 A [] = some (A.set k u) := by
    show stN (k : Int) 0 u 1 A = _
    unfold stN
    simp only [dite_true]
    show (ixN A.length (k : Int)).map (fun j => A.set j u) = _
    unfold ixN
    rw [if_pos (by omega), if_pos (by omega)]
    rfl
  unfold setD
  simp only [h6, bindS_ok, q0, bindQ_ok, h4, e_dat1, stR, upE, h1]
  rw [m0]
theorem set_0z {i : Nat} {ρ : Env} {L : List PD} {z : Int} {j : Nat} {d : PD} {ix e : ED} (h1 : ρ[i]? = some (.ow 0 L)) (h4 : ix ρ = .ok (.im (.int z))) (h5 : ixN L.length z = some j) (h6 : e ρ = .ok (.im d)) :
    setD i (ownQ i) ix e ρ = .nx (ρ.set i (.ow 0 (L.set j d))) := by
  have q0 : ownQ i ρ = .ok [] := by unfold ownQ; rw [h1]
  have m0 : modP (stF z d) 0 L [] = some (L.set j d) := by
    show (ixN L.length z).map (fun j => L.set j d) = _
    rw [h5]
    rfl
  unfold setD
  simp only [h6, bindS_ok, q0, bindQ_ok, h4, e_dat1, stR, upE, h1]
  rw [m0]
theorem cut_m1 {α : Type} (xs : List α) (a : α) : cutL (xs ++ [a]) (some (-1)) none = [a] := by
  have e : HT.sIx (xs ++ [a]).length 0 (some (-1 : Int)) = xs.length := by
    show (if (-1 : Int) < 0 then ((-1 : Int) + ((xs ++ [a]).length : Nat)).toNat else min (-1 : Int).toNat (xs ++ [a]).length) = _
    rw [if_pos (by omega)]
    simp
    omega
  unfold cutL
  rw [e, HT.sIx_none]
  simp
theorem cut_to {α : Type} (xs : List α) (p : Nat) (h : p ≤ xs.length) : cutL xs none (some (p : Int)) = xs.take p := by
  have e : HT.sIx xs.length xs.length (some (p : Int)) = min p xs.length := HT.sIx_nat _ _ p
  unfold cutL
  rw [e, HT.sIx_none, Nat.min_eq_left h]
  simp
/-! ### data of any kind -/
def numB (n : Int) : PD → Bool
  | .int i => decide (0 ≤ i) && decide (i < n)
  | _ => false
def listB (n : Int) : PD → Bool
  | .list ds => ds.all (numB n)
  | _ => false
def nonD : PD → Bool
  | .dict (_ :: _) => false
  | _ => true
def lnP : PD → Nat
  | .list ds => ds.length
  | _ => 0
end Z

/-! ## K14P -/
set_option Elab.async false
set_option linter.all false
set_option maxRecDepth 100000

namespace P
noncomputable section
open PySem PySem.Spec PyProof.Rows L2 Z
def topS (i : Nat) : Stmt := PySem.Challenge.pw_thingdeal_k14_read.main.body.getD i (.Pass ⟨0, 0, 0, 0⟩)
abbrev cm (K : PySem.W.Frag) : CM := fun c => .ref (He.ga K (Str.ofString c))
abbrev FnP (K : PySem.W.Frag) (x : Str) (st : Stmt) (f : Addr) (fd : FuncData) : Prop := FunD K x x (defArgs st) (defBody st) (defScope st) [] [] f fd
/-- an own exception class -/
abbrev ExF (K : PySem.W.Frag) (mg : Str → Option Value) (x : Str) : Prop := mg x = some (.ref (He.ga K x)) ∧ PySem.W.excIn K (He.ga K x) He.veBase "ValueError.__new__" = true ∧ PySem.W.keepIn K (.ref (He.ga K x)) = true ∧ PySem.W.subIn K (.ref (He.ga K x)) (.type "BaseException") = some true ∧ PySem.W.typeIn K (.ref (He.ga K x)) = some (.type "type")
abbrev xf_BadNote : Xf := ⟨"BadNote", [(.own "BadHeir", false), (.own "BadOrder", false), (.own "BadRing", false), (.own "BadShares", false), (.own "BadTable", false), (.own "BadThing", false), (.own "Full", false), (.own "BadNote", true), (.bt "ValueError", true)], ["DealError"]⟩
abbrev xf_BadShares : Xf := ⟨"BadShares", [], ["BadShares"]⟩
/-! #### is_number_below -/
abbrev s_is_number_below : Stmt := topS 13
theorem sc_is_number_below : FnScope ["value", "limit"] ["value", "limit"] (defScope s_is_number_below) := ⟨rfl, rfl, rfl, by decide +kernel, rfl, by decide +kernel, by decide +kernel⟩
def d_is_number_below : SD :=
      (retD (andD (tyD id "int" (varD 0)) (chnD leI ltI (cD (.int 0)) (varD 0) (varD 1))))
def f_is_number_below : List PD → Out R := denF 2 2 d_is_number_below
set_option maxHeartbeats 4000000 in
theorem m_is_number_below {P : Program} {w : World} {K : PySem.W.Frag} {mg : Str → Option Value} {base : Heap}  {f : Addr} {fd : FuncData} (F : FnP K "is_number_below" s_is_number_below f fd) (h_type : mg "type" = none) (h_int : mg "int" = none) :
    FnOk P w K mg base (L2N.CX P w) 1 f fd ["value", "limit"] (SpF K (cm K) 2 f_is_number_below) :=
  fnOk_of F sc_is_number_below rfl (by decide) fun cdv A outer s H E hr => by
    exact (sb_one (ss_ret (se_and (se_ty (T := "int") (by rfl) h_type (by rfl) h_int (by decide +kernel) (se_var 0)) (se_one (se_chn op_le op_lt lk_le lk_lt se_int (se_var 0) (se_var 1))))))
/-! #### is_list_below -/
abbrev s_is_list_below : Stmt := topS 14
theorem sc_is_list_below : FnScope ["value", "limit", "item"] ["value", "limit"] (defScope s_is_list_below) := ⟨rfl, rfl, rfl, by decide +kernel, rfl, by decide +kernel, by decide +kernel⟩
def d_is_list_below : SD :=
      (retD (andD (tyD id "list" (varD 0)) (cbD allF (consA (lcD (itJ (varD 0)) [2] (.nm 2) yesT (callD f_is_number_below (consA (varD 2) (consA (varD 1) nilA)))) nilA))))
def f_is_list_below : List PD → Out R := denF 3 2 d_is_list_below
set_option maxHeartbeats 4000000 in
theorem m_is_list_below {P : Program} {w : World} {K : PySem.W.Frag} {mg : Str → Option Value} {base : Heap}  {f : Addr} {fd : FuncData} (F : FnP K "is_list_below" s_is_list_below f fd) (h_type : mg "type" = none) (h_list : mg "list" = none) (h_all : mg "all" = none) (G_is_number_below : Cal P w K mg base (cm K) "is_number_below" 1 2 ["value", "limit"] f_is_number_below) :
    FnOk P w K mg base (L2N.CX P w) 2 f fd ["value", "limit"] (SpF K (cm K) 2 f_is_list_below) :=
  fnOk_of F sc_is_list_below rfl (by decide) fun cdv A outer s H E hr => by
    exact (sb_one (ss_ret (se_and (se_ty (T := "list") (by rfl) h_type (by rfl) h_list (by decide +kernel) (se_var 0)) (se_one (se_cb (cr_all rfl) lk_all (by rfl) h_all (by decide +kernel) (sa_cons (se_lc (own := [("item", 2)]) rfl sc_is_list_below.nd (sj_list (se_var 0)) (blkOk_by (N := ["value", "limit", "item"]) (sc := defScope s_is_list_below) (by decide +kernel)) (by decide) (fun b => (sg_name 2 sc_is_list_below.nd (by first | exact Or.inl rfl | exact Or.inr rfl))) (fun b => sts_nil) (fun b => (se_cal G_is_number_below hr (by decide) passN (alen_cons (alen_cons alen_nil)) (sa_cons (se_var 2) (sa_cons (se_var 1) sa_nil))))) sa_nil))))))
/-! #### need_parted -/
abbrev s_need_parted : Stmt := topS 15
theorem sc_need_parted : FnScope ["shares", "many", "share", "held", "thing"] ["shares", "many"] (defScope s_need_parted) := ⟨rfl, rfl, rfl, by decide +kernel, rfl, by decide +kernel, by decide +kernel⟩
def d_need_parted : SD :=
      (seqD (forD (itD (varD 0)) (.nm 2) (seqD (ifD (notT (tstD (callD f_is_list_below (consA (varD 2) (consA (varD 1) nilA))))) (fun _ => .ex "BadShares") (fun ρ => .nx ρ))
      (ifD (tstD (binR neF (varD 2) (sortD (consA (varD 2) nilA)))) (fun _ => .ex "BadShares") (fun ρ => .nx ρ))))
      (seqD (asgD 3 (lc2D (itJ (varD 0)) [2, 4] (.nm 2) yesT (itD (varD 2)) [4] (.nm 4) yesT (varD 4)))
      (ifD (tstD (binR neF (lenSetD (varD 3)) (cbD lenF (consA (varD 3) nilA)))) (fun _ => .ex "BadShares") (fun ρ => .nx ρ))))
def f_need_parted : List PD → Out R := denF 5 2 d_need_parted
set_option maxHeartbeats 4000000 in
theorem m_need_parted {P : Program} {w : World} {K : PySem.W.Frag} {mg : Str → Option Value} {base : Heap}  {f : Addr} {fd : FuncData} (F : FnP K "need_parted" s_need_parted f fd) (h_sorted : mg "sorted" = none) (h_len : mg "len" = none) (h_set : mg "set" = none) (e_BadShares : ExF K mg "BadShares") (G_is_list_below : Cal P w K mg base (cm K) "is_list_below" 2 2 ["value", "limit"] f_is_list_below) :
    FnOk P w K mg base (L2N.CX P w) 3 f fd ["shares", "many"] (SpF K (cm K) 2 f_need_parted) :=
  fnOk_of F sc_need_parted rfl (by decide) fun cdv A outer s H E hr => by
    exact (sb_cons (ss_for (passes_of rfl) rfl (si_list (se_var 0)) (sg_name 2 sc_need_parted.nd (Or.inl rfl)) (sb_cons (ss_if (st_not (st_val (se_cal G_is_list_below hr (by decide) (L2N.passes_call (L2N.takes_of rfl rfl rfl rfl) (fun _ _ _ _ h => h)) (alen_cons (alen_cons alen_nil)) (sa_cons (se_var 2) (sa_cons (se_var 1) sa_nil))))) (sb_one (ss_raise (c := "BadShares") rfl (L2N.takes_of rfl rfl rfl rfl) rfl PySem.F.excBase_ValueError e_BadShares.2.1 e_BadShares.1 e_BadShares.2.2.1 (raises_own e_BadShares.2.2.2.1 e_BadShares.2.2.2.2) rfl)) sb_nil)
      (sb_one (ss_if (st_cmp (op_neD (room64 hr)) lk_ne (se_var 2) (se_sorted (by rfl) h_sorted (sa_cons (se_var 2) sa_nil)) (nomark _)) (sb_one (ss_raise (c := "BadShares") rfl (L2N.takes_of rfl rfl rfl rfl) rfl PySem.F.excBase_ValueError e_BadShares.2.1 e_BadShares.1 e_BadShares.2.2.1 (raises_own e_BadShares.2.2.2.1 e_BadShares.2.2.2.2) rfl)) sb_nil))))
      (sb_cons (ss_asgLc2 (own := [("share", 2), ("thing", 4)]) (vs1 := [4])  3 rfl sc_need_parted.nd rfl (sw_true rfl rfl rfl (by decide +kernel)) (sj_list (se_var 0)) (blkOk_by (N := ["shares", "many", "share", "held", "thing"]) (sc := defScope s_need_parted) (by decide +kernel)) (by decide) (by decide) (by decide) (fun b => (sg_name 2 sc_need_parted.nd (by first | exact Or.inl rfl | exact Or.inr rfl))) (fun b => sts_nil) (fun b => (si_list (se_var 2))) (fun b => (sg_name 4 sc_need_parted.nd (by first | exact Or.inl rfl | exact Or.inr rfl))) (fun b => sts_nil) (fun b => (se_var 4)))
      (sb_one (ss_if (st_cmp (op_neD (room64 hr)) lk_ne (se_lenSet (by rfl) h_len (by rfl) h_set (se_var 3)) (se_cb call_len lk_len (by rfl) h_len boot_len (sa_cons (se_var 3) sa_nil)) (nomark _)) (sb_one (ss_raise (c := "BadShares") rfl (L2N.takes_of rfl rfl rfl rfl) rfl PySem.F.excBase_ValueError e_BadShares.2.1 e_BadShares.1 e_BadShares.2.2.1 (raises_own e_BadShares.2.2.2.1 e_BadShares.2.2.2.2) rfl)) sb_nil))))
/-! #### things_of_row -/
abbrev s_things_of_row : Stmt := topS 17
theorem sc_things_of_row : FnScope ["row", "heir", "words", "numbers", "word", "thing"] ["row", "heir"] (defScope s_things_of_row) := ⟨rfl, rfl, rfl, by decide +kernel, rfl, by decide +kernel, by decide +kernel⟩
def d_things_of_row : SD :=
      (seqD (asgD 2 (splitD (varD 0) (cD (.str (Str.ofString " ")))))
      (seqD (ifD (tstD (binR neF (ixD (varD 2) (cD (.int 0))) (fjD (varD 1) (Str.ofString ":")))) (fun _ => .ex "BadNote") (fun ρ => .nx ρ))
      (seqD (asgD 3 (lcD (rg1D (cD (.int 40))) [5] (.nm 5) yesT (cbD strF (consA (varD 5) nilA))))
      (seqD (forD (itD (slD (varD 2) (soO (cD (.int 1))) noO)) (.nm 4) (ifD (tstD (binR niF (varD 4) (varD 3))) (fun _ => .ex "BadNote") (fun ρ => .nx ρ)))
      (retD (lcD (itJ (slD (varD 2) (soO (cD (.int 1))) noO)) [4] (.nm 4) yesT (indexD (varD 3) (varD 4))))))))
def f_things_of_row : List PD → Out R := denF 6 2 d_things_of_row
set_option maxHeartbeats 4000000 in
theorem m_things_of_row {P : Program} {w : World} {K : PySem.W.Frag} {mg : Str → Option Value} {base : Heap} {t_MOST_THINGS : Tok} {f : Addr} {fd : FuncData} (F : FnP K "things_of_row" s_things_of_row f fd) (h_range : mg "range" = none) (h_str : mg "str" = none) (hc_MOST_THINGS : mg "MOST_THINGS" = some (.int 40 t_MOST_THINGS)) (e_BadNote : ExF K mg "BadNote") :
    FnOk P w K mg base (L2N.CX P w) 1 f fd ["row", "heir"] (SpF K (cm K) 2 f_things_of_row) :=
  fnOk_of F sc_things_of_row rfl (by decide) fun cdv A outer s H E hr => by
    exact (sb_cons (ss_asg 2 sc_things_of_row.nd (Or.inl rfl) (se_split (se_var 0) se_str))
      (sb_cons (ss_if (st_cmp (op_neD (room64 hr)) lk_ne (se_ix (se_var 2) se_int (fun _ _ => rfl)) (se_fj (se_var 1)) (nomark _)) (sb_one (ss_raise (c := "BadNote") rfl (L2N.takes_of rfl rfl rfl rfl) rfl PySem.F.excBase_ValueError e_BadNote.2.1 e_BadNote.1 e_BadNote.2.2.1 (raises_own e_BadNote.2.2.2.1 e_BadNote.2.2.2.2) rfl)) sb_nil)
      (sb_cons (ss_asg 3 sc_things_of_row.nd (Or.inr rfl) (se_lc (own := [("thing", 5)]) rfl sc_things_of_row.nd (si_rg1 (by rfl) h_range (se_globI (by rfl) hc_MOST_THINGS)).j (blkOk_by (N := ["row", "heir", "words", "numbers", "word", "thing"]) (sc := defScope s_things_of_row) (by decide +kernel)) (by decide) (fun b => (sg_name 5 sc_things_of_row.nd (by first | exact Or.inl rfl | exact Or.inr rfl))) (fun b => sts_nil) (fun b => (se_cty call_str_int lk_str (by rfl) h_str (by decide +kernel) (sa_cons (se_var 5) sa_nil)))))
      (sb_cons (ss_for (passes_of rfl) rfl (si_list (se_sl (se_var 2) (so_some se_int) so_none)) (sg_name 4 sc_things_of_row.nd (Or.inl rfl)) (sb_one (ss_if (st_cmp (op_notInD (room65 hr)) lk_ni (se_var 4) (se_var 3) (by rfl)) (sb_one (ss_raise (c := "BadNote") rfl (L2N.takes_of rfl rfl rfl rfl) rfl PySem.F.excBase_ValueError e_BadNote.2.1 e_BadNote.1 e_BadNote.2.2.1 (raises_own e_BadNote.2.2.2.1 e_BadNote.2.2.2.2) rfl)) sb_nil)))
      (sb_one (ss_ret (se_lc (own := [("word", 4)]) rfl sc_things_of_row.nd (sj_list (se_sl (se_var 2) (so_some se_int) so_none)) (blkOk_by (N := ["row", "heir", "words", "numbers", "word", "thing"]) (sc := defScope s_things_of_row) (by decide +kernel)) (by decide) (fun b => (sg_name 4 sc_things_of_row.nd (by first | exact Or.inl rfl | exact Or.inr rfl))) (fun b => sts_nil) (fun b => (se_index (room65 hr) (se_var 3) (se_var 4) (fun _ _ ho ha => pe_bm PySem.F.plainAttrs_list PySem.F.slot_list_index PySem.F.type_list_index (mt_indexD (room65 hr)) ho ha))))))))))
/-! #### read -/
abbrev s_read : Stmt := topS 18
theorem sc_read : FnScope ["text", "rows", "shares", "error", "heir", "row"] ["text"] (defScope s_read) := ⟨rfl, rfl, rfl, by decide +kernel, rfl, by decide +kernel, by decide +kernel⟩
def d_read : SD :=
      (seqD (ifD (tstD (tyD not "str" (varD 0))) (fun _ => .ex "BadNote") (fun ρ => .nx ρ))
      (seqD (asgD 1 (splitD (varD 0) (cD (.str (Str.ofString "\n")))))
      (seqD (ifD (tstD (binR gtI (cbD lenF (consA (varD 1) nilA)) (cD (.int 8)))) (fun _ => .ex "BadNote") (fun ρ => .nx ρ))
      (seqD (frzD 1) (seqD (asgD 2 (lcFXD 0 (enD (varD 1)) [4, 5] (.tp [4, 5]) yesT (callD f_things_of_row (consA (varD 5) (consA (varD 4) nilA)))))
      (seqD (tryR f_need_parted (consA (varD 2) (consA (cD (.int 40)) nilA)) "BadShares" "BadNote")
      (retVD 2)))))))
def f_read : List PD → Out R := denF 6 1 d_read
set_option maxHeartbeats 4000000 in
theorem m_read {P : Program} {w : World} {K : PySem.W.Frag} {mg : Str → Option Value} {base : Heap} {t_MOST_HEIRS : Tok} {t_MOST_THINGS : Tok} {f : Addr} {fd : FuncData} (F : FnP K "read" s_read f fd) (h_type : mg "type" = none) (h_str : mg "str" = none) (h_len : mg "len" = none) (h_enumerate : mg "enumerate" = none) (hc_MOST_HEIRS : mg "MOST_HEIRS" = some (.int 8 t_MOST_HEIRS)) (hc_MOST_THINGS : mg "MOST_THINGS" = some (.int 40 t_MOST_THINGS)) (e_BadNote : ExF K mg "BadNote") (e_BadShares : ExF K mg "BadShares") (g_BadShares : mg "BadShares" = some (.ref (He.ga K "BadShares"))) (x_BadShares : XfOk K xf_BadShares) (G_things_of_row : Cal P w K mg base (cm K) "things_of_row" 1 2 ["row", "heir"] f_things_of_row) (G_need_parted : Cal P w K mg base (cm K) "need_parted" 3 2 ["shares", "many"] f_need_parted) :
    FnOk P w K mg base (L2.CX P w) 4 f fd ["text"] (SpF K (cm K) 1 f_read) :=
  fnOk_ofL F sc_read rfl (by decide) fun cdv A outer s H E hr => by
    exact (sb_cons (ss_if (st_nty (T := "str") (by rfl) h_type (by rfl) h_str (by decide +kernel) (se_var 0)) (sb_one (ss_raise (c := "BadNote") rfl (takesN (L2.takes_of rfl rfl rfl rfl)) rfl PySem.F.excBase_ValueError e_BadNote.2.1 e_BadNote.1 e_BadNote.2.2.1 (raises_own e_BadNote.2.2.2.1 e_BadNote.2.2.2.2) rfl)) sb_nil)
      (sb_cons (ss_asg 1 sc_read.nd (Or.inl rfl) (se_split (se_var 0) se_str))
      (sb_cons (ss_if (st_cmp op_gt lk_gt (se_cb call_len lk_len (by rfl) h_len boot_len (sa_cons (se_var 1) sa_nil)) (se_globI (by rfl) hc_MOST_HEIRS) (nomark _)) (sb_one (ss_raise (c := "BadNote") rfl (takesN (L2.takes_of rfl rfl rfl rfl)) rfl PySem.F.excBase_ValueError e_BadNote.2.1 e_BadNote.1 e_BadNote.2.2.1 (raises_own e_BadNote.2.2.2.1 e_BadNote.2.2.2.2) rfl)) sb_nil)
      (sb_frz 1 (sb_cons (ss_asgLcR (own := [("heir", 4), ("row", 5)]) 0 2 rfl sc_read.nd rfl rfl (takesN (L2.takes_of rfl rfl rfl rfl)) rfl (sw_true rfl rfl rfl (by decide +kernel)) (si_enum (by rfl) h_enumerate (se_var 1)).j (blkOk_by (N := ["text", "rows", "shares", "error", "heir", "row"]) (sc := defScope s_read) (by decide +kernel)) (by decide) (fun b => (sg_tup rfl (sgs_cons 4 sc_read.nd (by first | exact Or.inl rfl | exact Or.inr rfl) (sgs_cons 5 sc_read.nd (by first | exact Or.inl rfl | exact Or.inr rfl) sgs_nil)))) (fun b => sts_nil) (fun b => (se_cal G_things_of_row hr (by decide) passB (alen_cons (alen_cons alen_nil)) (sa_cons (se_var 5) (sa_cons (se_var 4) sa_nil)))))
      (sb_cons (ss_tryR (i := 3) (c0 := "BadShares") (c2 := "BadNote") G_need_parted hr (by decide) (alen_cons (alen_cons alen_nil)) (fun pn xe => (sa_cons (se_var 2) (sa_cons (se_globI (by rfl) hc_MOST_THINGS) sa_nil))) rfl rfl sc_read.nd rfl (show (defScope s_read).names.lookup (Str.ofString "error") = some PySem.NameKind.local from by decide +kernel) ⟨by rfl, by decide, .inl g_BadShares⟩ (L2.takes_of rfl rfl rfl rfl) (x_BadShares.exm _ List.mem_cons_self) rfl (raises_own e_BadShares.2.2.2.1 e_BadShares.2.2.2.2) PySem.F.excBase_ValueError e_BadNote.2.1 e_BadNote.1 e_BadNote.2.2.1 (raises_own e_BadNote.2.2.2.1 e_BadNote.2.2.2.2))
      (sb_one (ss_retV 2))))))))
/-! #### _law_at -/
abbrev s__law_at : Stmt := topS 20
theorem sc__law_at : FnScope ["_law_script", "_law_k"] ["_law_script", "_law_k"] (defScope s__law_at) := ⟨rfl, rfl, rfl, by decide +kernel, rfl, by decide +kernel, by decide +kernel⟩
def d__law_at : SD :=
      (seqD (ifD (tstD (binR ltI (varD 1) (cbD lenF (consA (varD 0) nilA)))) (retD (ixD (varD 0) (varD 1))) (fun ρ => .nx ρ))
      (retD (cD (.int 0))))
def f__law_at : List PD → Out R := denF 2 2 d__law_at
set_option maxHeartbeats 4000000 in
theorem m__law_at {P : Program} {w : World} {K : PySem.W.Frag} {mg : Str → Option Value} {base : Heap}  {f : Addr} {fd : FuncData} (F : FnP K "_law_at" s__law_at f fd) (h_len : mg "len" = none) :
    FnOk P w K mg base (L2N.CX P w) 1 f fd ["_law_script", "_law_k"] (SpF K (cm K) 2 f__law_at) :=
  fnOk_of F sc__law_at rfl (by decide) fun cdv A outer s H E hr => by
    exact (sb_cons (ss_if (st_cmp op_lt lk_lt (se_var 1) (se_cb call_len lk_len (by rfl) h_len boot_len (sa_cons (se_var 0) sa_nil)) (nomark _)) (sb_one (ss_ret (se_ix (se_var 0) (se_var 1) (fun _ _ => rfl)))) sb_nil)
      (sb_one (ss_ret se_int)))
/-! #### _law_mixed -/
abbrev s__law_mixed : Stmt := topS 21
theorem sc__law_mixed : FnScope ["_law_cell", "_law_k"] ["_law_cell", "_law_k"] (defScope s__law_mixed) := ⟨rfl, rfl, rfl, by decide +kernel, rfl, by decide +kernel, by decide +kernel⟩
def d__law_mixed : SD :=
      (retD (binR modI (binR mulI (addD (addD (varD 0) (binR mulI (cD (.int 7919)) (varD 1))) (cD (.int 17))) (cD (.int 48271))) (cD (.int 2147483647))))
def f__law_mixed : List PD → Out R := denF 2 2 d__law_mixed
set_option maxHeartbeats 4000000 in
theorem m__law_mixed {P : Program} {w : World} {K : PySem.W.Frag} {mg : Str → Option Value} {base : Heap}  {f : Addr} {fd : FuncData} (F : FnP K "_law_mixed" s__law_mixed f fd)  :
    FnOk P w K mg base (L2N.CX P w) 1 f fd ["_law_cell", "_law_k"] (SpF K (cm K) 2 f__law_mixed) :=
  fnOk_of F sc__law_mixed rfl (by decide) fun cdv A outer s H E hr => by
    exact (sb_one (ss_ret (se_op op_mod lk_mod (se_op op_mul lk_mul (se_add (se_add (se_var 0) (se_op op_mul lk_mul se_int (se_var 1))) se_int) se_int) se_int)))
/-! #### _law_parts -/
abbrev s__law_parts : Stmt := topS 22
theorem sc__law_parts : FnScope ["_law_script", "_law_heirs", "_law_found", "_law_thing", "_law_to", "_law_heir"] ["_law_script"] (defScope s__law_parts) := ⟨rfl, rfl, rfl, by decide +kernel, rfl, by decide +kernel, by decide +kernel⟩
def d__law_parts : SD :=
      (seqD (asgD 1 (addD (cD (.int 1)) (binR modI (callD f__law_at (consA (varD 0) (consA (cD (.int 0)) nilA))) (cD (.int 9)))))
      (seqD (asgD 2 (lcFD 0 (rg1D (varD 1)) [5] (.nm 5) yesT (lstD nilA)))
      (seqD (forD (rg1D (cD (.int 40))) (.nm 3) (seqD (asgD 4 (binR modI (binR divI (callD f__law_mixed (consA (callD f__law_at (consA (varD 0) (consA (addD (cD (.int 2)) (binR modI (varD 3) (cD (.int 20)))) nilA))) (consA (varD 3) nilA))) (cD (.int 5))) (addD (varD 1) (binR modI (callD f__law_at (consA (varD 0) (consA (cD (.int 1)) nilA))) (cD (.int 40))))))
      (ifD (tstD (binR ltI (varD 4) (varD 1))) (appD 2 (ixQ 2 (ownQ 2) (varD 4)) (varD 3)) (fun ρ => .nx ρ))))
      (retVD 2))))
def f__law_parts : List PD → Out R := denF 6 1 d__law_parts
set_option maxHeartbeats 4000000 in
theorem m__law_parts {P : Program} {w : World} {K : PySem.W.Frag} {mg : Str → Option Value} {base : Heap}  {f : Addr} {fd : FuncData} (F : FnP K "_law_parts" s__law_parts f fd) (h_range : mg "range" = none) (G__law_at : Cal P w K mg base (cm K) "_law_at" 1 2 ["_law_script", "_law_k"] f__law_at) (G__law_mixed : Cal P w K mg base (cm K) "_law_mixed" 1 2 ["_law_cell", "_law_k"] f__law_mixed) :
    FnOk P w K mg base (L2N.CX P w) 2 f fd ["_law_script"] (SpF K (cm K) 1 f__law_parts) :=
  fnOk_of F sc__law_parts rfl (by decide) fun cdv A outer s H E hr => by
    exact (sb_cons (ss_asg 1 sc__law_parts.nd (Or.inl rfl) (se_add se_int (se_op op_mod lk_mod (se_cal G__law_at hr (by decide) (L2N.passes_call (L2N.takes_of rfl rfl rfl rfl) (fun _ _ _ _ h => h)) (alen_cons (alen_cons alen_nil)) (sa_cons (se_var 0) (sa_cons se_int sa_nil))) se_int)))
      (sb_cons (ss_asgLcF (own := [("_law_heir", 5)]) 0 2 rfl sc__law_parts.nd rfl (sw_true rfl rfl rfl (by decide +kernel)) (si_rg1 (by rfl) h_range (se_var 1)).j (blkOk_by (N := ["_law_script", "_law_heirs", "_law_found", "_law_thing", "_law_to", "_law_heir"]) (sc := defScope s__law_parts) (by decide +kernel)) (by decide) (fun b => (sg_name 5 sc__law_parts.nd (by first | exact Or.inl rfl | exact Or.inr rfl))) (fun b => sts_nil) (fun b => (se_lst sa_nil)))
      (sb_cons (ss_for (passes_of rfl) rfl (si_rg1 (by rfl) h_range se_int) (sg_name 3 sc__law_parts.nd (Or.inl rfl)) (sb_cons (ss_asg 4 sc__law_parts.nd (Or.inl rfl) (se_op op_mod lk_mod (se_op op_fdiv lk_div (se_cal G__law_mixed hr (by decide) (L2N.passes_call (L2N.takes_of rfl rfl rfl rfl) (fun _ _ _ _ h => h)) (alen_cons (alen_cons alen_nil)) (sa_cons (se_cal G__law_at hr (by decide) (L2N.passes_call (L2N.takes_of rfl rfl rfl rfl) (fun _ _ _ _ h => h)) (alen_cons (alen_cons alen_nil)) (sa_cons (se_var 0) (sa_cons (se_add se_int (se_op op_mod lk_mod (se_var 3) se_int)) sa_nil))) (sa_cons (se_var 3) sa_nil))) se_int) (se_add (se_var 1) (se_op op_mod lk_mod (se_cal G__law_at hr (by decide) (L2N.passes_call (L2N.takes_of rfl rfl rfl rfl) (fun _ _ _ _ h => h)) (alen_cons (alen_cons alen_nil)) (sa_cons (se_var 0) (sa_cons se_int sa_nil))) se_int))))
      (sb_one (ss_if (st_cmp op_lt lk_lt (se_var 4) (se_var 1) (nomark _)) (sb_one (ss_app (spl_ix (spl_var 2) (se_var 4) (fun _ _ => rfl)) (se_var 3) (hp := fun _ _ ho ha => pe_bm PySem.F.plainAttrs_list PySem.F.slot_list_append PySem.F.type_list_append mt_append ho ha))) sb_nil))))
      (sb_one (ss_retV 2)))))
/-! #### _law_text -/
abbrev s__law_text : Stmt := topS 23
theorem sc__law_text : FnScope ["_law_held", "_law_rows", "_law_heir", "_law_row", "_law_thing"] ["_law_held"] (defScope s__law_text) := ⟨rfl, rfl, rfl, by decide +kernel, rfl, by decide +kernel, by decide +kernel⟩
def d__law_text : SD :=
      (seqD (asgD 1 (nilD 0))
      (seqD (forD (rg1D (cbD lenF (consA (varD 0) nilA))) (.nm 2) (seqD (asgD 3 (addD (cbD strF (consA (varD 2) nilA)) (cD (.str (Str.ofString ":")))))
      (seqD (forD (itD (ixD (varD 0) (varD 2))) (.nm 4) (asgD 3 (addD (addD (varD 3) (cD (.str (Str.ofString " ")))) (cbD strF (consA (varD 4) nilA)))))
      (appD 1 (ownQ 1) (varD 3)))))
      (retD (joinD (Str.ofString "\n") (varD 1)))))
def f__law_text : List PD → Out R := denF 5 1 d__law_text
set_option maxHeartbeats 4000000 in
theorem m__law_text {P : Program} {w : World} {K : PySem.W.Frag} {mg : Str → Option Value} {base : Heap}  {f : Addr} {fd : FuncData} (F : FnP K "_law_text" s__law_text f fd) (h_len : mg "len" = none) (h_range : mg "range" = none) (h_str : mg "str" = none) :
    FnOk P w K mg base (L2N.CX P w) 1 f fd ["_law_held"] (SpF K (cm K) 1 f__law_text) :=
  fnOk_of F sc__law_text rfl (by decide) fun cdv A outer s H E hr => by
    exact (sb_cons (ss_asg 1 sc__law_text.nd (Or.inl rfl) (se_nil 0))
      (sb_cons (ss_for (passes_of rfl) rfl (si_rg1 (by rfl) h_range (se_cb call_len lk_len (by rfl) h_len boot_len (sa_cons (se_var 0) sa_nil))) (sg_name 2 sc__law_text.nd (Or.inl rfl)) (sb_cons (ss_asg 3 sc__law_text.nd (Or.inl rfl) (se_add (se_cty call_str_int lk_str (by rfl) h_str (by decide +kernel) (sa_cons (se_var 2) sa_nil)) se_str))
      (sb_cons (ss_for (passes_of rfl) rfl (si_list (se_ix (se_var 0) (se_var 2) (fun _ _ => rfl))) (sg_name 4 sc__law_text.nd (Or.inl rfl)) (sb_one (ss_asg 3 sc__law_text.nd (Or.inl rfl) (se_add (se_add (se_var 3) se_str) (se_cty call_str_int lk_str (by rfl) h_str (by decide +kernel) (sa_cons (se_var 4) sa_nil))))))
      (sb_one (ss_app (spl_var 1) (se_var 3) (hp := fun _ _ ho ha => pe_bm PySem.F.plainAttrs_list PySem.F.slot_list_append PySem.F.type_list_append mt_append ho ha))))))
      (sb_one (ss_ret (se_join (se_var 1))))))
/-! #### _law_sign -/
abbrev s__law_sign : Stmt := topS 24
theorem sc__law_sign : FnScope ["_law_number", "_law_some"] ["_law_number"] (defScope s__law_sign) := ⟨rfl, rfl, rfl, by decide +kernel, rfl, by decide +kernel, by decide +kernel⟩
def d__law_sign : SD :=
      (seqD (ifD (tstD (binR gtI (binR modI (varD 0) (cD (.int 4))) (cD (.int 0)))) (retD (ixD (cD (.str (Str.ofString "0123456789: \n0 7"))) (binR modI (binR divI (varD 0) (cD (.int 4))) (cD (.int 16))))) (fun ρ => .nx ρ))
      (seqD (asgD 1 (cD (.str (Str.ofString " !\"#$&'()*+,-./0123456789:;<=>?@ABCDEFGHIJKLMNOPQRSTUVWXYZ[\\]^_`abcdefghijklmnopqrstuvwxyz{|}~\t"))))
      (retD (ixD (varD 1) (binR modI (binR divI (varD 0) (cD (.int 4))) (cD (.int 95)))))))
def f__law_sign : List PD → Out R := denF 2 1 d__law_sign
set_option maxHeartbeats 4000000 in
theorem m__law_sign {P : Program} {w : World} {K : PySem.W.Frag} {mg : Str → Option Value} {base : Heap}  {f : Addr} {fd : FuncData} (F : FnP K "_law_sign" s__law_sign f fd)  :
    FnOk P w K mg base (L2N.CX P w) 1 f fd ["_law_number"] (SpF K (cm K) 1 f__law_sign) :=
  fnOk_of F sc__law_sign rfl (by decide) fun cdv A outer s H E hr => by
    exact (sb_cons (ss_if (st_cmp op_gt lk_gt (se_op op_mod lk_mod (se_var 0) se_int) se_int (nomark _)) (sb_one (ss_ret (se_ix se_str (se_op op_mod lk_mod (se_op op_fdiv lk_div (se_var 0) se_int) se_int) (fun _ _ => rfl)))) sb_nil)
      (sb_cons (ss_asg 1 sc__law_sign.nd (Or.inl rfl) se_str)
      (sb_one (ss_ret (se_ix (se_var 1) (se_op op_mod lk_mod (se_op op_fdiv lk_div (se_var 0) se_int) se_int) (fun _ _ => rfl))))))
/-! #### _law_changed -/
abbrev s__law_changed : Stmt := topS 25
theorem sc__law_changed : FnScope ["_law_text_here", "_law_number", "_law_way", "_law_at_here", "_law_sign_here", "_law_words", "_law_one", "_law_rows"] ["_law_text_here", "_law_number"] (defScope s__law_changed) := ⟨rfl, rfl, rfl, by decide +kernel, rfl, by decide +kernel, by decide +kernel⟩
def d__law_changed : SD :=
      (seqD (asgD 2 (binR modI (varD 1) (cD (.int 9))))
      (seqD (asgD 3 (binR modI (binR divI (varD 1) (cD (.int 9))) (addD (cbD lenF (consA (varD 0) nilA)) (cD (.int 1)))))
      (seqD (asgD 4 (callD f__law_sign (consA (binR divI (varD 1) (cD (.int 700))) nilA)))
      (seqD (ifD (tstD (binR ltI (varD 2) (cD (.int 2)))) (retD (addD (addD (slSD (varD 0) noO (soO (varD 3))) (varD 4)) (slSD (varD 0) (soO (varD 3)) noO))) (fun ρ => .nx ρ))
      (seqD (ifD (tstD (binR ltI (varD 2) (cD (.int 4)))) (retD (addD (slSD (varD 0) noO (soO (varD 3))) (slSD (varD 0) (soO (addD (varD 3) (cD (.int 1)))) noO))) (fun ρ => .nx ρ))
      (seqD (ifD (tstD (binR eqF (varD 2) (cD (.int 4)))) (retD (addD (addD (slSD (varD 0) noO (soO (varD 3))) (varD 4)) (slSD (varD 0) (soO (addD (varD 3) (cD (.int 1)))) noO))) (fun ρ => .nx ρ))
      (seqD (ifD (tstD (binR eqF (varD 2) (cD (.int 5)))) (seqD (asgD 5 (splitD (varD 0) (cD (.str (Str.ofString " ")))))
      (seqD (asgD 6 (binR modI (binR divI (varD 1) (cD (.int 9))) (cbD lenF (consA (varD 5) nilA))))
      (retD (joinD (Str.ofString " ") (addD (addD (slD (varD 5) noO (soO (varD 6))) (slD (varD 5) (soO (addD (varD 6) (cD (.int 1)))) noO)) (lstD (consA (ixD (varD 5) (varD 6)) nilA))))))) (fun ρ => .nx ρ))
      (seqD (asgD 7 (splitD (varD 0) (cD (.str (Str.ofString "\n")))))
      (seqD (asgD 6 (binR modI (binR divI (varD 1) (cD (.int 9))) (cbD lenF (consA (varD 7) nilA))))
      (seqD (ifD (tstD (binR eqF (varD 2) (cD (.int 6)))) (asgD 7 (addD (addD (slD (varD 7) noO (soO (varD 6))) (lstD (consA (ixD (varD 7) (varD 6)) nilA))) (slD (varD 7) (soO (varD 6)) noO))) (fun ρ => .nx ρ))
      (seqD (ifD (tstD (binR eqF (varD 2) (cD (.int 7)))) (asgD 7 (addD (slD (varD 7) noO (soO (varD 6))) (slD (varD 7) (soO (addD (varD 6) (cD (.int 1)))) noO))) (fun ρ => .nx ρ))
      (seqD (ifD (tstD (binR eqF (varD 2) (cD (.int 8)))) (asgD 7 (addD (addD (lstD (consA (ixD (varD 7) (varD 6)) nilA)) (slD (varD 7) noO (soO (varD 6)))) (slD (varD 7) (soO (addD (varD 6) (cD (.int 1)))) noO))) (fun ρ => .nx ρ))
      (retD (joinD (Str.ofString "\n") (varD 7)))))))))))))))
def f__law_changed : List PD → Out R := denF 8 2 d__law_changed
set_option maxHeartbeats 4000000 in
theorem m__law_changed {P : Program} {w : World} {K : PySem.W.Frag} {mg : Str → Option Value} {base : Heap}  {f : Addr} {fd : FuncData} (F : FnP K "_law_changed" s__law_changed f fd) (h_len : mg "len" = none) (G__law_sign : Cal P w K mg base (cm K) "_law_sign" 1 1 ["_law_number"] f__law_sign) :
    FnOk P w K mg base (L2N.CX P w) 2 f fd ["_law_text_here", "_law_number"] (SpF K (cm K) 2 f__law_changed) :=
  fnOk_of F sc__law_changed rfl (by decide) fun cdv A outer s H E hr => by
    exact (sb_cons (ss_asg 2 sc__law_changed.nd (Or.inl rfl) (se_op op_mod lk_mod (se_var 1) se_int))
      (sb_cons (ss_asg 3 sc__law_changed.nd (Or.inl rfl) (se_op op_mod lk_mod (se_op op_fdiv lk_div (se_var 1) se_int) (se_add (se_cb call_len lk_len (by rfl) h_len boot_len (sa_cons (se_var 0) sa_nil)) se_int)))
      (sb_cons (ss_asg 4 sc__law_changed.nd (Or.inl rfl) (se_cal G__law_sign hr (by decide) (L2N.passes_call (L2N.takes_of rfl rfl rfl rfl) (fun _ _ _ _ h => h)) (alen_cons alen_nil) (sa_cons (se_op op_fdiv lk_div (se_var 1) se_int) sa_nil)))
      (sb_cons (ss_if (st_cmp op_lt lk_lt (se_var 2) se_int (nomark _)) (sb_one (ss_ret (se_add (se_add (se_slS (se_var 0) so_none (so_some (se_var 3))) (se_var 4)) (se_slS (se_var 0) (so_some (se_var 3)) so_none)))) sb_nil)
      (sb_cons (ss_if (st_cmp op_lt lk_lt (se_var 2) se_int (nomark _)) (sb_one (ss_ret (se_add (se_slS (se_var 0) so_none (so_some (se_var 3))) (se_slS (se_var 0) (so_some (se_add (se_var 3) se_int)) so_none)))) sb_nil)
      (sb_cons (ss_if (st_cmp (op_eqD (room64 hr)) lk_eq (se_var 2) se_int (nomark _)) (sb_one (ss_ret (se_add (se_add (se_slS (se_var 0) so_none (so_some (se_var 3))) (se_var 4)) (se_slS (se_var 0) (so_some (se_add (se_var 3) se_int)) so_none)))) sb_nil)
      (sb_cons (ss_if (st_cmp (op_eqD (room64 hr)) lk_eq (se_var 2) se_int (nomark _)) (sb_cons (ss_asg 5 sc__law_changed.nd (Or.inl rfl) (se_split (se_var 0) se_str))
      (sb_cons (ss_asg 6 sc__law_changed.nd (Or.inl rfl) (se_op op_mod lk_mod (se_op op_fdiv lk_div (se_var 1) se_int) (se_cb call_len lk_len (by rfl) h_len boot_len (sa_cons (se_var 5) sa_nil))))
      (sb_one (ss_ret (se_join (se_add (se_add (se_sl (se_var 5) so_none (so_some (se_var 6))) (se_sl (se_var 5) (so_some (se_add (se_var 6) se_int)) so_none)) (se_lst (sa_cons (se_ix (se_var 5) (se_var 6) (fun _ _ => rfl)) sa_nil)))))))) sb_nil)
      (sb_cons (ss_asg 7 sc__law_changed.nd (Or.inl rfl) (se_split (se_var 0) se_str))
      (sb_cons (ss_asg 6 sc__law_changed.nd (Or.inl rfl) (se_op op_mod lk_mod (se_op op_fdiv lk_div (se_var 1) se_int) (se_cb call_len lk_len (by rfl) h_len boot_len (sa_cons (se_var 7) sa_nil))))
      (sb_cons (ss_if (st_cmp (op_eqD (room64 hr)) lk_eq (se_var 2) se_int (nomark _)) (sb_one (ss_asg 7 sc__law_changed.nd (Or.inl rfl) (se_add (se_add (se_sl (se_var 7) so_none (so_some (se_var 6))) (se_lst (sa_cons (se_ix (se_var 7) (se_var 6) (fun _ _ => rfl)) sa_nil))) (se_sl (se_var 7) (so_some (se_var 6)) so_none)))) sb_nil)
      (sb_cons (ss_if (st_cmp (op_eqD (room64 hr)) lk_eq (se_var 2) se_int (nomark _)) (sb_one (ss_asg 7 sc__law_changed.nd (Or.inl rfl) (se_add (se_sl (se_var 7) so_none (so_some (se_var 6))) (se_sl (se_var 7) (so_some (se_add (se_var 6) se_int)) so_none)))) sb_nil)
      (sb_cons (ss_if (st_cmp (op_eqD (room64 hr)) lk_eq (se_var 2) se_int (nomark _)) (sb_one (ss_asg 7 sc__law_changed.nd (Or.inl rfl) (se_add (se_add (se_lst (sa_cons (se_ix (se_var 7) (se_var 6) (fun _ _ => rfl)) sa_nil)) (se_sl (se_var 7) so_none (so_some (se_var 6)))) (se_sl (se_var 7) (so_some (se_add (se_var 6) se_int)) so_none)))) sb_nil)
      (sb_one (ss_ret (se_join (se_var 7))))))))))))))))
/-! #### _law_drawn -/
abbrev s__law_drawn : Stmt := topS 26
theorem sc__law_drawn : FnScope ["_law_script", "_law_number", "_law_odd", "_law_text_here", "_law_k"] ["_law_script"] (defScope s__law_drawn) := ⟨rfl, rfl, rfl, by decide +kernel, rfl, by decide +kernel, by decide +kernel⟩
def d__law_drawn : SD :=
      (seqD (asgD 1 (callD f__law_mixed (consA (callD f__law_at (consA (varD 0) (consA (cD (.int 22)) nilA))) (consA (cD (.int 1)) nilA))))
      (seqD (ifD (tstD (binR eqF (binR modI (varD 1) (cD (.int 8))) (cD (.int 1)))) (seqD (asgD 2 (lstD (consA (cD (.str (Str.ofString ""))) (consA (cD (.str (Str.ofString "0:\n"))) (consA (cD (.str (Str.ofString "\n0:"))) (consA (cD (.str (Str.ofString "0: 07"))) (consA (cD (.str (Str.ofString "00:"))) (consA (cD (.str (Str.ofString "0: 40"))) (consA (cD (.str (Str.ofString "0: -0"))) (consA (cD (.str (Str.ofString "0:  1"))) (consA (cD (.str (Str.ofString "0: 1 "))) (consA (cD (.str (Str.ofString "0:1"))) (consA (cD (.str (Str.ofString "0: 1 0"))) (consA (cD (.str (Str.ofString "0: 1 1"))) nilA))))))))))))))
      (retD (ixD (varD 2) (binR modI (binR divI (varD 1) (cD (.int 8))) (cD (.int 12)))))) (fun ρ => .nx ρ))
      (seqD (asgD 3 (callD f__law_text (consA (callD f__law_parts (consA (varD 0) nilA)) nilA)))
      (seqD (forD (rg1D (binR modI (binR divI (varD 1) (cD (.int 8))) (cD (.int 3)))) (.nm 4) (asgD 3 (callD f__law_changed (consA (varD 3) (consA (binR divI (callD f__law_mixed (consA (callD f__law_at (consA (varD 0) (consA (addD (cD (.int 23)) (varD 4)) nilA))) (consA (varD 4) nilA))) (cD (.int 2))) nilA)))))
      (retVD 3)))))
def f__law_drawn : List PD → Out R := denF 5 1 d__law_drawn
set_option maxHeartbeats 4000000 in
theorem m__law_drawn {P : Program} {w : World} {K : PySem.W.Frag} {mg : Str → Option Value} {base : Heap}  {f : Addr} {fd : FuncData} (F : FnP K "_law_drawn" s__law_drawn f fd) (h_range : mg "range" = none) (G__law_mixed : Cal P w K mg base (cm K) "_law_mixed" 1 2 ["_law_cell", "_law_k"] f__law_mixed) (G__law_at : Cal P w K mg base (cm K) "_law_at" 1 2 ["_law_script", "_law_k"] f__law_at) (G__law_text : Cal P w K mg base (cm K) "_law_text" 1 1 ["_law_held"] f__law_text) (G__law_parts : Cal P w K mg base (cm K) "_law_parts" 2 1 ["_law_script"] f__law_parts) (G__law_changed : Cal P w K mg base (cm K) "_law_changed" 2 2 ["_law_text_here", "_law_number"] f__law_changed) :
    FnOk P w K mg base (L2N.CX P w) 3 f fd ["_law_script"] (SpF K (cm K) 1 f__law_drawn) :=
  fnOk_of F sc__law_drawn rfl (by decide) fun cdv A outer s H E hr => by
    exact (sb_cons (ss_asg 1 sc__law_drawn.nd (Or.inl rfl) (se_cal G__law_mixed hr (by decide) (L2N.passes_call (L2N.takes_of rfl rfl rfl rfl) (fun _ _ _ _ h => h)) (alen_cons (alen_cons alen_nil)) (sa_cons (se_cal G__law_at hr (by decide) (L2N.passes_call (L2N.takes_of rfl rfl rfl rfl) (fun _ _ _ _ h => h)) (alen_cons (alen_cons alen_nil)) (sa_cons (se_var 0) (sa_cons se_int sa_nil))) (sa_cons se_int sa_nil))))
      (sb_cons (ss_if (st_cmp (op_eqD (room64 hr)) lk_eq (se_op op_mod lk_mod (se_var 1) se_int) se_int (nomark _)) (sb_cons (ss_asg 2 sc__law_drawn.nd (Or.inl rfl) (se_lst (sa_cons se_str (sa_cons se_str (sa_cons se_str (sa_cons se_str (sa_cons se_str (sa_cons se_str (sa_cons se_str (sa_cons se_str (sa_cons se_str (sa_cons se_str (sa_cons se_str (sa_cons se_str sa_nil))))))))))))))
      (sb_one (ss_ret (se_ix (se_var 2) (se_op op_mod lk_mod (se_op op_fdiv lk_div (se_var 1) se_int) se_int) (fun _ _ => rfl))))) sb_nil)
      (sb_cons (ss_asg 3 sc__law_drawn.nd (Or.inl rfl) (se_cal G__law_text hr (by decide) (L2N.passes_call (L2N.takes_of rfl rfl rfl rfl) (fun _ _ _ _ h => h)) (alen_cons alen_nil) (sa_cons (se_cal G__law_parts hr (by decide) (L2N.passes_call (L2N.takes_of rfl rfl rfl rfl) (fun _ _ _ _ h => h)) (alen_cons alen_nil) (sa_cons (se_var 0) sa_nil)) sa_nil)))
      (sb_cons (ss_for (passes_of rfl) rfl (si_rg1 (by rfl) h_range (se_op op_mod lk_mod (se_op op_fdiv lk_div (se_var 1) se_int) se_int)) (sg_name 4 sc__law_drawn.nd (Or.inl rfl)) (sb_one (ss_asg 3 sc__law_drawn.nd (Or.inl rfl) (se_cal G__law_changed hr (by decide) (L2N.passes_call (L2N.takes_of rfl rfl rfl rfl) (fun _ _ _ _ h => h)) (alen_cons (alen_cons alen_nil)) (sa_cons (se_var 3) (sa_cons (se_op op_fdiv lk_div (se_cal G__law_mixed hr (by decide) (L2N.passes_call (L2N.takes_of rfl rfl rfl rfl) (fun _ _ _ _ h => h)) (alen_cons (alen_cons alen_nil)) (sa_cons (se_cal G__law_at hr (by decide) (L2N.passes_call (L2N.takes_of rfl rfl rfl rfl) (fun _ _ _ _ h => h)) (alen_cons (alen_cons alen_nil)) (sa_cons (se_var 0) (sa_cons (se_add se_int (se_var 4)) sa_nil))) (sa_cons (se_var 4) sa_nil))) se_int) sa_nil))))))
      (sb_one (ss_retV 3))))))
/-! #### _law_due -/
abbrev s__law_due : Stmt := topS 27
theorem sc__law_due : FnScope ["_law_text_here", "_law_held", "_law_seen", "_law_row", "_law_things", "_law_word", "_law_share", "_law_sign_here"] ["_law_text_here"] (defScope s__law_due) := ⟨rfl, rfl, rfl, by decide +kernel, rfl, by decide +kernel, by decide +kernel⟩
def d__law_due : SD :=
      (seqD (asgD 1 (nilD 0))
      (seqD (asgD 2 (nilD 0))
      (seqD (forD (itD (splitD (varD 0) (cD (.str (Str.ofString "\n"))))) (.nm 3) (seqD (asgD 4 (nilD 0))
      (seqD (forD (itD (slD (splitD (varD 3) (cD (.str (Str.ofString " ")))) (soO (cD (.int 1))) noO)) (.nm 5) (seqD (ifD (orT (tstD (binR eqF (varD 5) (cD (.str (Str.ofString ""))))) (orT (tstD (binR gtI (cbD lenF (consA (varD 5) nilA)) (cD (.int 2)))) (tstD (binR neF (lcD (itS (varD 5)) [7] (.nm 7) (tstD (binR niS (varD 7) (cD (.str (Str.ofString "0123456789"))))) (varD 7)) (lstD nilA))))) (retD (cD .none)) (fun ρ => .nx ρ))
      (appD 4 (ownQ 4) (cbD intSF (consA (varD 5) nilA)))))
      (seqD (asgD 2 (addD (varD 2) (varD 4)))
      (seqD (frzD 4) (appD 1 (ownQ 1) (varD 4)))))))
      (seqD (ifD (orT (tstD (binR gtI (cbD lenF (consA (varD 1) nilA)) (cD (.int 8)))) (orT (tstD (binR neF (callD f__law_text (consA (varD 1) nilA)) (varD 0))) (tstD (binR ltI (lenSetD (varD 2)) (cbD lenF (consA (varD 2) nilA)))))) (retD (cD .none)) (fun ρ => .nx ρ))
      (seqD (ifD (orT (tstD (binR neF (lcD (itJ (varD 1)) [6] (.nm 6) (tstD (binR neF (varD 6) (sortD (consA (varD 6) nilA)))) (varD 6)) (lstD nilA))) (tstD (binR gtI (cbD maxF (consA (addD (varD 2) (lstD (consA (cD (.int 0)) nilA))) nilA)) (cD (.int 39))))) (retD (cD .none)) (fun ρ => .nx ρ))
      (retVD 1))))))
def f__law_due : List PD → Out R := denF 8 1 d__law_due
set_option maxHeartbeats 4000000 in
theorem m__law_due {P : Program} {w : World} {K : PySem.W.Frag} {mg : Str → Option Value} {base : Heap}  {f : Addr} {fd : FuncData} (F : FnP K "_law_due" s__law_due f fd) (h_len : mg "len" = none) (h_int : mg "int" = none) (h_set : mg "set" = none) (h_sorted : mg "sorted" = none) (h_max : mg "max" = none) (G__law_text : Cal P w K mg base (cm K) "_law_text" 1 1 ["_law_held"] f__law_text) :
    FnOk P w K mg base (L2N.CX P w) 2 f fd ["_law_text_here"] (SpF K (cm K) 1 f__law_due) :=
  fnOk_of F sc__law_due rfl (by decide) fun cdv A outer s H E hr => by
    exact (sb_cons (ss_asg 1 sc__law_due.nd (Or.inl rfl) (se_nil 0))
      (sb_cons (ss_asg 2 sc__law_due.nd (Or.inl rfl) (se_nil 0))
      (sb_cons (ss_for (passes_of rfl) rfl (si_list (se_split (se_var 0) se_str)) (sg_name 3 sc__law_due.nd (Or.inl rfl)) (sb_cons (ss_asg 4 sc__law_due.nd (Or.inl rfl) (se_nil 0))
      (sb_cons (ss_for (passes_of rfl) rfl (si_list (se_sl (se_split (se_var 3) se_str) (so_some se_int) so_none)) (sg_name 5 sc__law_due.nd (Or.inl rfl)) (sb_cons (ss_if (sw_or (st_cmp (op_eqD (room64 hr)) lk_eq (se_var 5) se_str (nomark _)) (sw_or (st_cmp op_gt lk_gt (se_cb call_len lk_len (by rfl) h_len boot_len (sa_cons (se_var 5) sa_nil)) se_int (nomark _)) (sw_or1 (st_cmp (op_neD (room64 hr)) lk_ne (se_lc (own := [("_law_sign_here", 7)]) rfl sc__law_due.nd (sj_str (se_var 5)) (blkOk_by (N := ["_law_text_here", "_law_held", "_law_seen", "_law_row", "_law_things", "_law_word", "_law_share", "_law_sign_here"]) (sc := defScope s__law_due) (by decide +kernel)) (by decide) (fun b => (sg_name 7 sc__law_due.nd (by first | exact Or.inl rfl | exact Or.inr rfl))) (fun b => (sts_one (st_cmp op_notIn_sign lk_niS (se_var 7) se_str (by rfl)))) (fun b => (se_var 7))) (se_lst sa_nil) (nomark _))))).t (sb_one (ss_ret se_non)) sb_nil)
      (sb_one (ss_app (spl_var 4) (se_cty call_int_str lk_intS (by rfl) h_int boot_int (sa_cons (se_var 5) sa_nil)) (hp := fun _ _ ho ha => pe_bm PySem.F.plainAttrs_list PySem.F.slot_list_append PySem.F.type_list_append mt_append ho ha)))))
      (sb_cons (ss_asg 2 sc__law_due.nd (Or.inl rfl) (se_add (se_var 2) (se_var 4)))
      (sb_frz 4 (sb_one (ss_app (spl_var 1) (se_var 4) (hp := fun _ _ ho ha => pe_bm PySem.F.plainAttrs_list PySem.F.slot_list_append PySem.F.type_list_append mt_append ho ha))))))))
      (sb_cons (ss_if (sw_or (st_cmp op_gt lk_gt (se_cb call_len lk_len (by rfl) h_len boot_len (sa_cons (se_var 1) sa_nil)) se_int (nomark _)) (sw_or (st_cmp (op_neD (room64 hr)) lk_ne (se_cal G__law_text hr (by decide) (L2N.passes_call (L2N.takes_of rfl rfl rfl rfl) (fun _ _ _ _ h => h)) (alen_cons alen_nil) (sa_cons (se_var 1) sa_nil)) (se_var 0) (nomark _)) (sw_or1 (st_cmp op_lt lk_lt (se_lenSet (by rfl) h_len (by rfl) h_set (se_var 2)) (se_cb call_len lk_len (by rfl) h_len boot_len (sa_cons (se_var 2) sa_nil)) (nomark _))))).t (sb_one (ss_ret se_non)) sb_nil)
      (sb_cons (ss_if (sw_or (st_cmp (op_neD (room64 hr)) lk_ne (se_lc (own := [("_law_share", 6)]) rfl sc__law_due.nd (sj_list (se_var 1)) (blkOk_by (N := ["_law_text_here", "_law_held", "_law_seen", "_law_row", "_law_things", "_law_word", "_law_share", "_law_sign_here"]) (sc := defScope s__law_due) (by decide +kernel)) (by decide) (fun b => (sg_name 6 sc__law_due.nd (by first | exact Or.inl rfl | exact Or.inr rfl))) (fun b => (sts_one (st_cmp (op_neD (room64 hr)) lk_ne (se_var 6) (se_sorted (by rfl) h_sorted (sa_cons (se_var 6) sa_nil)) (nomark _)))) (fun b => (se_var 6))) (se_lst sa_nil) (nomark _)) (sw_or1 (st_cmp op_gt lk_gt (se_cb (cr_max rfl) lk_max (by rfl) h_max (by decide +kernel) (sa_cons (se_add (se_var 2) (se_lst (sa_cons se_int sa_nil))) sa_nil)) se_int (nomark _)))).t (sb_one (ss_ret se_non)) sb_nil)
      (sb_one (ss_retV 1)))))))
/-! #### _law_refused -/
abbrev s__law_refused : Stmt := topS 28
theorem sc__law_refused : FnScope ["_law_text_here", "error"] ["_law_text_here"] (defScope s__law_refused) := ⟨rfl, rfl, rfl, by decide +kernel, rfl, by decide +kernel, by decide +kernel⟩
def d__law_refused : SD :=
      (seqD (tryU f_read (consA (varD 0) nilA) 1 (fun c => ([("BadNote", fun a => (seqD (ifD (orT (tstD (isED a 1 false)) (tstD (isED a 1 false))) (retD (cD (.bool false))) (fun ρ => .nx ρ))
      (retD (andD (isED a 1 true) (isED a 1 true)))))] : List (String × (Addr → SD))).lookup c))
      (retD (cD (.bool false))))
def f__law_refused : List PD → Out R := denF 2 1 d__law_refused
set_option maxHeartbeats 4000000 in
theorem m__law_refused {P : Program} {w : World} {K : PySem.W.Frag} {mg : Str → Option Value} {base : Heap}  {f : Addr} {fd : FuncData} (F : FnP K "_law_refused" s__law_refused f fd) (h_isinstance : mg "isinstance" = none) (h_ValueError : mg "ValueError" = none) (g_DealError : mg "DealError" = some (.ref (He.ga K "DealError"))) (g_BadHeir : mg "BadHeir" = some (.ref (He.ga K "BadHeir"))) (g_BadOrder : mg "BadOrder" = some (.ref (He.ga K "BadOrder"))) (g_BadRing : mg "BadRing" = some (.ref (He.ga K "BadRing"))) (g_BadShares : mg "BadShares" = some (.ref (He.ga K "BadShares"))) (g_BadTable : mg "BadTable" = some (.ref (He.ga K "BadTable"))) (g_BadThing : mg "BadThing" = some (.ref (He.ga K "BadThing"))) (g_Full : mg "Full" = some (.ref (He.ga K "Full"))) (g_BadNote : mg "BadNote" = some (.ref (He.ga K "BadNote"))) (x_BadNote : XfOk K xf_BadNote) (G_read : CalL P w K mg base (cm K) "read" 4 1 ["text"] f_read) :
    FnOk P w K mg base (L2.CX P w) 5 f fd ["_law_text_here"] (SpF K (cm K) 1 f__law_refused) :=
  fnOk_ofL F sc__law_refused rfl (by decide) fun cdv A outer s H E hr => by
    exact (sb_cons (ss_tryL (fun c => ([("BadNote", fun a => (seqD (ifD (orT (tstD (isED a 1 false)) (tstD (isED a 1 false))) (retD (cD (.bool false))) (fun ρ => .nx ρ))
      (retD (andD (isED a 1 true) (isED a 1 true)))))] : List (String × (Addr → SD))).lookup c) G_read hr (by decide) (alen_cons alen_nil) (fun pn xe => (sa_cons (se_var 0) sa_nil)) rfl rfl sc__law_refused.nd rfl (show (defScope s__law_refused).names.lookup (Str.ofString "error") = some PySem.NameKind.local from by decide +kernel) ⟨by rfl, by decide, .inl g_DealError⟩ (L2.takes_of rfl rfl rfl rfl) (su_cases (P := fun c s => _) (fa_cons (x_BadNote.exm _ List.mem_cons_self) fa_nil)) (su_cases (P := fun c s => _) (fa_cons (fun a oe pn hz hv => (sb_cons (ss_if (sw_or (st_val (se_isAT (f := xf_BadNote) 1 [((.own "BadHeir"), false), ((.own "BadOrder"), false), ((.own "BadRing"), false), ((.own "BadShares"), false)] x_BadNote ⟨oe, List.mem_cons_self, hz, hv⟩ (tcs_cons (tc_own g_BadHeir) (tcs_cons (tc_own g_BadOrder) (tcs_cons (tc_own g_BadRing) (tcs_cons (tc_own g_BadShares) tcs_nil)))) (fa_cons (by show (_ : Tc × Bool) ∈ _; exact List.mem_cons_self) (fa_cons (by show (_ : Tc × Bool) ∈ _; exact List.mem_cons_of_mem _ (List.mem_cons_self)) (fa_cons (by show (_ : Tc × Bool) ∈ _; exact List.mem_cons_of_mem _ (List.mem_cons_of_mem _ (List.mem_cons_self))) (fa_cons (by show (_ : Tc × Bool) ∈ _; exact List.mem_cons_of_mem _ (List.mem_cons_of_mem _ (List.mem_cons_of_mem _ (List.mem_cons_self)))) fa_nil)))) (by decide) (by rfl) h_isinstance)) (sw_or1 (st_val (se_isAT (f := xf_BadNote) 1 [((.own "BadTable"), false), ((.own "BadThing"), false), ((.own "Full"), false)] x_BadNote ⟨oe, List.mem_cons_self, hz, hv⟩ (tcs_cons (tc_own g_BadTable) (tcs_cons (tc_own g_BadThing) (tcs_cons (tc_own g_Full) tcs_nil))) (fa_cons (by show (_ : Tc × Bool) ∈ _; exact List.mem_cons_of_mem _ (List.mem_cons_of_mem _ (List.mem_cons_of_mem _ (List.mem_cons_of_mem _ (List.mem_cons_self))))) (fa_cons (by show (_ : Tc × Bool) ∈ _; exact List.mem_cons_of_mem _ (List.mem_cons_of_mem _ (List.mem_cons_of_mem _ (List.mem_cons_of_mem _ (List.mem_cons_of_mem _ (List.mem_cons_self)))))) (fa_cons (by show (_ : Tc × Bool) ∈ _; exact List.mem_cons_of_mem _ (List.mem_cons_of_mem _ (List.mem_cons_of_mem _ (List.mem_cons_of_mem _ (List.mem_cons_of_mem _ (List.mem_cons_of_mem _ (List.mem_cons_self))))))) fa_nil))) (by decide) (by rfl) h_isinstance)))).t (sb_one (ss_ret se_bl)) sb_nil)
      (sb_one (ss_ret (se_and (se_isA (f := xf_BadNote) (T := (.own "BadNote")) 1 true x_BadNote ⟨oe, List.mem_cons_self, hz, hv⟩ (tc_own g_BadNote) (by show (_ : Tc × Bool) ∈ _; exact List.mem_cons_of_mem _ (List.mem_cons_of_mem _ (List.mem_cons_of_mem _ (List.mem_cons_of_mem _ (List.mem_cons_of_mem _ (List.mem_cons_of_mem _ (List.mem_cons_of_mem _ (List.mem_cons_self)))))))) (by rfl) h_isinstance) (se_one (se_isA (f := xf_BadNote) (T := (.bt "ValueError")) 1 true x_BadNote ⟨oe, List.mem_cons_self, hz, hv⟩ (tc_bt h_ValueError (by decide +kernel)) (by show (_ : Tc × Bool) ∈ _; exact List.mem_cons_of_mem _ (List.mem_cons_of_mem _ (List.mem_cons_of_mem _ (List.mem_cons_of_mem _ (List.mem_cons_of_mem _ (List.mem_cons_of_mem _ (List.mem_cons_of_mem _ (List.mem_cons_of_mem _ (List.mem_cons_self))))))))) (by rfl) h_isinstance))))))) fa_nil)))
      (sb_one (ss_ret se_bl)))
/-! #### law -/
abbrev s_law : Stmt := topS 29
theorem sc_law : FnScope ["_law_script", "_law_text_here", "_law_due_here", "_law_found", "_law_share", "_law_thing"] ["_law_script"] (defScope s_law) := ⟨rfl, rfl, rfl, by decide +kernel, rfl, by decide +kernel, by decide +kernel⟩
def d_law : SD :=
      (seqD (ifD (notT (tstD (callD f__law_refused (consA (ixD (lstD (consA (cD .none) (consA (cD (.int 5)) (consA (lstD nilA) (consA (lstD (consA (cD (.str (Str.ofString "0:"))) nilA)) (consA (cD (.bool true)) (consA empD (consA (tupD (consA (cD (.str (Str.ofString "0:"))) nilA)) nilA)))))))) (binR modI (callD f__law_at (consA (varD 0) (consA (cD (.int 26)) nilA))) (cD (.int 7)))) nilA)))) (retD (cD (.bool false))) (fun ρ => .nx ρ))
      (seqD (asgD 1 (callD f__law_drawn (consA (varD 0) nilA)))
      (seqD (asgD 2 (callD f__law_due (consA (varD 1) nilA)))
      (seqD (ifD (tstD (binR isNF (varD 2) (cD .none))) (retD (callD f__law_refused (consA (varD 1) nilA))) (fun ρ => .nx ρ))
      (seqD (asgD 3 (callD f_read (consA (varD 1) nilA)))
      (seqD (ifD (orT (notT (tstD (isiD "list" (varD 3)))) (tstD (binR neF (varD 3) (varD 2)))) (retD (cD (.bool false))) (fun ρ => .nx ρ))
      (seqD (appAllC 3 4 5 (orT (tstD (isiD "bool" (varD 5))) (notT (tstD (isiD "int" (varD 5))))) (.int (-1)))
      (retD (binR eqF (callD f_read (consA (varD 1) nilA)) (varD 2))))))))))
def f_law : List PD → Out R := denF 6 1 d_law
set_option maxHeartbeats 4000000 in
theorem m_law {P : Program} {w : World} {K : PySem.W.Frag} {mg : Str → Option Value} {base : Heap}  {f : Addr} {fd : FuncData} (F : FnP K "law" s_law f fd) (h_isinstance : mg "isinstance" = none) (h_list : mg "list" = none) (h_bool : mg "bool" = none) (h_int : mg "int" = none) (G__law_refused : CalL P w K mg base (cm K) "_law_refused" 5 1 ["_law_text_here"] f__law_refused) (G__law_at : Cal P w K mg base (cm K) "_law_at" 1 2 ["_law_script", "_law_k"] f__law_at) (G__law_drawn : Cal P w K mg base (cm K) "_law_drawn" 3 1 ["_law_script"] f__law_drawn) (G__law_due : Cal P w K mg base (cm K) "_law_due" 2 1 ["_law_text_here"] f__law_due) (G_read : CalL P w K mg base (cm K) "read" 4 1 ["text"] f_read) :
    FnOk P w K mg base (L2.CX P w) 6 f fd ["_law_script"] (SpF K (cm K) 1 f_law) :=
  fnOk_ofL F sc_law rfl (by decide) fun cdv A outer s H E hr => by
    exact (sb_cons (ss_if (st_not (st_val (se_calL G__law_refused hr (by decide) (L2.passes_call (L2.takes_of rfl rfl rfl rfl) (fun _ _ _ _ h => h)) (alen_cons alen_nil) (sa_cons (se_ix (se_lst (sa_cons se_non (sa_cons se_int (sa_cons (se_lst sa_nil) (sa_cons (se_lst (sa_cons se_str sa_nil)) (sa_cons se_bl (sa_cons se_emp (sa_cons (se_tup (sa_cons se_str sa_nil)) sa_nil)))))))) (se_op op_mod lk_mod (se_cal G__law_at hr (by decide) (passLN (L2.passes_call (L2.takes_of rfl rfl rfl rfl) (fun _ _ _ _ h => h))) (alen_cons (alen_cons alen_nil)) (sa_cons (se_var 0) (sa_cons se_int sa_nil))) se_int) (fun _ _ => rfl)) sa_nil)))) (sb_one (ss_ret se_bl)) sb_nil)
      (sb_cons (ss_asg 1 sc_law.nd (Or.inl rfl) (se_cal G__law_drawn hr (by decide) (passLN (L2.passes_call (L2.takes_of rfl rfl rfl rfl) (fun _ _ _ _ h => h))) (alen_cons alen_nil) (sa_cons (se_var 0) sa_nil)))
      (sb_cons (ss_asg 2 sc_law.nd (Or.inl rfl) (se_cal G__law_due hr (by decide) (passLN (L2.passes_call (L2.takes_of rfl rfl rfl rfl) (fun _ _ _ _ h => h))) (alen_cons alen_nil) (sa_cons (se_var 1) sa_nil)))
      (sb_cons (ss_if (st_cmp op_isN lk_isN (se_var 2) se_non (nomark _)) (sb_one (ss_ret (se_calL G__law_refused hr (by decide) (L2.passes_call (L2.takes_of rfl rfl rfl rfl) (fun _ _ _ _ h => h)) (alen_cons alen_nil) (sa_cons (se_var 1) sa_nil)))) sb_nil)
      (sb_cons (ss_asg 3 sc_law.nd (Or.inl rfl) (se_calL G_read hr (by decide) (L2.passes_call (L2.takes_of rfl rfl rfl rfl) (fun _ _ _ _ h => h)) (alen_cons alen_nil) (sa_cons (se_var 1) sa_nil)))
      (sb_cons (ss_if (sw_or (st_not (st_val (se_isi (T := "list") (by rfl) h_isinstance (by rfl) h_list (by decide +kernel) (se_var 3)))) (sw_or1 (st_cmp (op_neD (room64 hr)) lk_ne (se_var 3) (se_var 2) (nomark _)))).t (sb_one (ss_ret se_bl)) sb_nil)
      (sb_cons (ss_appAllC 3 4 5 (d := .int (-1)) (passes_of rfl) rfl sc_law.nd rfl rfl rfl (by first | exact Or.inl rfl | exact Or.inr (Or.inl rfl) | exact Or.inr (Or.inr rfl)) (by first | exact Or.inl rfl | exact Or.inr (Or.inl rfl) | exact Or.inr (Or.inr rfl)) (Or.inl rfl) (Or.inl rfl) (by first | exact Or.inl rfl | exact Or.inr rfl) (by first | exact Or.inl rfl | exact Or.inr rfl) (by decide) (by decide) (by decide) (by decide) (sw_or (st_val (se_isi (T := "bool") (by rfl) h_isinstance (by rfl) h_bool (by decide +kernel) (se_var 5))) (sw_or1 (st_not (st_val (se_isi (T := "int") (by rfl) h_isinstance (by rfl) h_int (by decide +kernel) (se_var 5)))))).t (sb_one (ss_ret se_bl)) (se_neg se_int) (fun _ => rfl) (by decide) (hpp := fun _ _ ho ha => pe_bm PySem.F.plainAttrs_list PySem.F.slot_list_append PySem.F.type_list_append mt_append ho ha))
      (sb_one (ss_ret (se_cmp (op_eqD (room64 hr)) lk_eq (se_calL G_read hr (by decide) (L2.passes_call (L2.takes_of rfl rfl rfl rfl) (fun _ _ _ _ h => h)) (alen_cons alen_nil) (sa_cons (se_var 1) sa_nil)) (se_var 2) (nomark _)))))))))))
end
end P

/-! ## K14M -/
set_option Elab.async false
set_option linter.all false
set_option maxRecDepth 100000
set_option maxHeartbeats 1000000
namespace P
noncomputable section
/-! #### maths: law130 -/
open PySem PySem.Spec PyProof.Rows L2 Z
theorem is_number_below_eq (v n : Int) : f_is_number_below [.int v, .int n] = .ok (.im (.bool (decide (0 ≤ v) && decide (v < n)))) := by
  refine den_rt ?_
  by_cases h : 0 ≤ v <;> by_cases h2 : v < n <;> simp [d_is_number_below, h, h2]
def inL (n : Int) (xs : List Int) : Bool := xs.all fun v => decide (0 ≤ v) && decide (v < n)
theorem is_list_below_eq (xs : List Int) (n : Int) (hl : xs.length ≤ 100000) : f_is_list_below [L1 xs, .int n] = .ok (.im (.bool (inL n xs))) := by
  refine den_rt ?_
  have := lcD_im (s := itJ (varD 0)) (vs := [2]) (k := .nm 2) (e := callD f_is_number_below (consA (varD 2) (consA (varD 1) nilA))) (ρ := [.im (L1 xs), .im (.int n), .no]) xs PyData.int (fun v => .bool (decide (0 ≤ v) && decide (v < n))) (by simp) hl (fun x hx => ⟨_, rfl, by simp [is_number_below_eq]⟩)
  simp [d_is_list_below, this, inL]
theorem inL_of {n : Int} {xs : List Int} (h : ∀ v ∈ xs, 0 ≤ v ∧ v < n) : inL n xs = true := by
  simp [inL]
  exact h
/-! #### maths: anynum -/
theorem number_any (d : PD) (n : Int) : f_is_number_below [d, .int n] = .ok (.im (.bool (numB n d))) := by
  refine den_rt ?_
  cases d with
  | int v => by_cases h : 0 ≤ v <;> by_cases h2 : v < n <;> simp [d_is_number_below, numB, h, h2]
  | dict l => cases l <;> simp [d_is_number_below, tyP, numB]
  | _ => simp [d_is_number_below, tyP, numB]
theorem list_any (d : PD) (n : Int) (hd : nonD d = true) (hl : lnP d ≤ 100000) : f_is_list_below [d, .int n] = .ok (.im (.bool (listB n d))) := by
  refine den_rt ?_
  cases d with
  | list ds =>
    have hl' : ds.length ≤ 100000 := hl
    have := lcD_im (s := itJ (varD 0)) (vs := [2]) (k := .nm 2) (e := callD f_is_number_below (consA (varD 2) (consA (varD 1) nilA))) (ρ := [.im (.list ds), .im (.int n), .no]) ds (fun d => d) (fun v => .bool (numB n v)) (by simp) hl' (fun x hx => ⟨_, rfl, by simp [number_any]⟩)
    simp [d_is_list_below, this, listB]
  | dict l =>
    cases l with
    | nil => simp [d_is_list_below, tyP, listB]
    | cons p r => simp [nonD] at hd
  | _ => simp [d_is_list_below, tyP, listB]
/-! #### maths: parted -/
structure WfS (m : Nat) (shares : List (List Int)) : Prop where
  num : ∀ s ∈ shares, ∀ v ∈ s, 0 ≤ v ∧ v < (m : Int)
  up : ∀ s ∈ shares, s.Pairwise (· < ·)
  nd : shares.flatten.Nodup
theorem nodup_le {m : Nat} {l : List Int} (h : l.Nodup) (hb : ∀ v ∈ l, 0 ≤ v ∧ v < (m : Int)) : l.length ≤ m := by
  have h2 : l ⊆ (List.range m).map fun (i : Nat) => (i : Int) := fun v hv => by
    have := hb v hv
    simp only [List.mem_map, List.mem_range]
    exact ⟨v.toNat, by omega, by omega⟩
  have := List.Nodup.length_le_of_subset h h2
  simpa using this
theorem WfS.len {m : Nat} {shares : List (List Int)} (W : WfS m shares) : shares.flatten.length ≤ m :=
  nodup_le W.nd fun v hv => by
    obtain ⟨s, hs, hv⟩ := List.mem_flatten.mp hv
    exact W.num s hs v hv
theorem WfS.slen {m : Nat} {shares : List (List Int)} (W : WfS m shares) {s : List Int} (hs : s ∈ shares) : s.length ≤ m :=
  nodup_le ((W.up s hs).imp fun h => by omega) (W.num s hs)
theorem need_parted_eq {shares : List (List Int)} {m : Nat} (a3 : m ≤ 40) (hl : shares.length ≤ 100000) (S : WfS m shares) : f_need_parted [LL shares, .int m] = .ok (.im .none) := by
  have a6 := S.len
  unfold f_need_parted
  rw [den_eq]
  simp [d_need_parted]
  refine fin_for (fun i ρ => ∃ x, ρ = [.im (LL shares), .im (.int m), x, .no, .no]) shares (fun r => L1 r) (by simp) ⟨_, rfl⟩ ?_ ?_
  · rintro i h ρ ⟨x, rfl⟩
    have b1 := S.slen (List.getElem_mem h)
    have b2 := inL_of (S.num _ (List.getElem_mem h))
    have b3 : shares[i].length ≤ 100000 := by omega
    have b4 := sortI_self _ (S.up _ (List.getElem_mem h))
    simp [is_list_below_eq, b1, b2, b3, sortD, b4, neF_L1]
    refine stp_nx ?_; exact ⟨_, rfl⟩
  · rintro ρ ⟨x, rfl⟩
    have c1 := lc2D_im (s := itJ (varD 0)) (s2 := itD (varD 2)) (vs := [2, 4]) (vs1 := [4]) (k1 := .nm 2) (k2 := .nm 4) (e := varD 4) (ρ := [.im (LL shares), .im (.int m), x, .no, .no]) shares (fun r => L1 r) (fun r => r) (fun _ => PyData.int) (fun _ => PyData.int) (by simp) (by
      have : (shares.flatMap fun x => x.map PyData.int).length = shares.flatten.length := by
        rw [List.length_flatMap, List.length_flatten]
        simp
      omega) (fun r hr => ⟨_, rfl, by simp, fun y hy => ⟨_, rfl, by simp⟩⟩)
    have c2 : (@List.flatMap (List Int) PD (fun x => x.map PyData.int) shares) = shares.flatten.map PyData.int := by
      rw [List.map_flatten]; rfl
    rw [c2] at c1
    have c3 : shares.flatten.length ≤ 4000 := by omega
    simp [-List.map_flatten, -List.length_flatten, c1, c3, ddL_nodup _ S.nd]
/-! #### maths: anyparted -/
theorem ddL_gen : ∀ (ns acc : List Int), (ns.foldl PyProof.Rows.step_dedup acc).length ≤ acc.length + ns.length ∧ ((ns.foldl PyProof.Rows.step_dedup acc).length = acc.length + ns.length → ns.Nodup ∧ ∀ x ∈ ns, x ∉ acc)
  | [], acc => ⟨by simp, fun _ => ⟨List.nodup_nil, fun _ h => nomatch h⟩⟩
  | n :: ns, acc => by
    rw [List.foldl_cons, List.length_cons]
    by_cases c : (acc.any fun x => x == n) = true
    · rw [show PyProof.Rows.step_dedup acc n = acc from if_pos c]
      have ih := (ddL_gen ns acc).1
      refine ⟨by omega, fun e => by omega⟩
    · rw [show PyProof.Rows.step_dedup acc n = acc ++ [n] from if_neg c]
      have hn : n ∉ acc := fun h => c (List.any_eq_true.mpr ⟨n, h, by simp⟩)
      have ih := ddL_gen ns (acc ++ [n])
      rw [List.length_append, List.length_singleton] at ih
      refine ⟨by omega, fun e => ?_⟩
      obtain ⟨h1, h2⟩ := ih.2 (by omega)
      refine ⟨List.nodup_cons.mpr ⟨fun h => h2 n h (by simp), h1⟩, fun x hx => ?_⟩
      rcases List.mem_cons.mp hx with rfl | hx
      · exact hn
      · exact fun h => h2 x hx (List.mem_append_left _ h)
theorem ddL_len {ns : List Int} (h : ¬ ns.Nodup) : (ddL ns).length ≠ ns.length := fun e => h ((ddL_gen ns []).2 (by simpa [ddL] using e)).1
def intsP : PD → List Int
  | .list ds => (intsOf ds).getD []
  | _ => []
theorem listB_ints {n : Int} {d : PD} (h : listB n d = true) : d = L1 (intsP d) ∧ inL n (intsP d) = true := by
  cases d with
  | list ds =>
    simp only [listB, List.all_eq_true] at h
    have : ∃ ns : List Int, ds = ns.map PyData.int := by
      induction ds with
      | nil => exact ⟨[], rfl⟩
      | cons x xs ih =>
        have h1 := h x List.mem_cons_self
        obtain ⟨ns, e⟩ := ih fun y hy => h y (List.mem_cons_of_mem _ hy)
        cases x with
        | int i => exact ⟨i :: ns, by simp [e]⟩
        | _ => simp [numB] at h1
    obtain ⟨ns, rfl⟩ := this
    refine ⟨by simp [intsP], ?_⟩
    simp only [intsP, intsOf_map_, Option.getD_some, inL, List.all_eq_true]
    intro v hv
    have := h (.int v) (List.mem_map_of_mem hv)
    simpa [numB] using this
  | _ => simp [listB] at h
def badP (m : Int) (ss : List PD) : Bool := ss.any (fun s => !listB m s || !decide (sortI (intsP s) = intsP s)) || !decide (ss.flatMap intsP).Nodup
theorem need_parted_any (ss : List PD) (m : Nat) (hl : ss.length ≤ 40) (hn : ∀ s ∈ ss, nonD s = true ∧ lnP s ≤ 100) : f_need_parted [.list ss, .int m] = if badP m ss then .ex "BadShares" else .ok (.im .none) := by
  unfold f_need_parted
  rw [den_eq]
  unfold d_need_parted
  refine (fin_anyX (b := .nm 2) (fun ρ => ∃ x, ρ = [.im (.list ss), .im (.int m), x, .no, .no]) ss (fun r => r) (fun r ρ => ρ.set 2 (.im r)) (fun s => !listB m s || !decide (sortI (intsP s) = intsP s)) "BadShares"
    (o := if !decide (ss.flatMap intsP).Nodup then .ex "BadShares" else .ok (.im .none)) (fun x ρ => rfl) (by simp) ⟨_, rfl⟩ ?_ ?_).trans ?_
  · rintro r hr ρ ⟨x, rfl⟩
    obtain ⟨q1, q2⟩ := hn r hr
    have a1 := list_any r m q1 (by omega)
    cases hb : listB (m : Int) r with
    | false => exact ⟨fun h => by simp [hb] at h, fun _ => by simp [a1, hb]⟩
    | true =>
      obtain ⟨e1, e2⟩ := listB_ints hb
      generalize intsP r = ns at e1 e2
      subst e1
      constructor
      · intro h
        have h : sortI ns = ns := by simpa using h
        simp [a1, hb, sortD, h, neF_L1]
        exact stp_nx ⟨_, rfl⟩
      · intro h
        have h : ¬ sortI ns = ns := by simpa using h
        have h2 : ¬ ns = sortI ns := fun e => h e.symm
        have := neF_L1 ns (sortI ns)
        simp only [L1, h2, decide_false, Bool.not_false] at this
        simp [a1, hb, sortD, this]
  · rintro hall ρ ⟨x, rfl⟩
    have isl : ∀ r ∈ ss, r = L1 (intsP r) ∧ (intsP r).length ≤ 100 := fun r hr => by
      have h := List.any_eq_false.mp hall r hr
      have hb : listB (m : Int) r = true := by
        cases q : listB (m : Int) r with
        | true => rfl
        | false => simp [q] at h
      have e := (listB_ints hb).1
      refine ⟨e, ?_⟩
      have := (hn r hr).2
      rw [e] at this
      simpa [lnP] using this
    have fl : ∀ l : List PD, (∀ r ∈ l, (intsP r).length ≤ 100) → (l.flatMap intsP).length ≤ 100 * l.length := fun l => by
      induction l with
      | nil => intro _; simp
      | cons a l ih =>
        intro h
        have h1 := h a List.mem_cons_self
        have h2 := ih fun r hr => h r (List.mem_cons_of_mem _ hr)
        simp only [List.flatMap_cons, List.length_append, List.length_cons]
        omega
    have fl1 := fl ss fun r hr => (isl r hr).2
    have c1 := lc2D_im (s := itJ (varD 0)) (s2 := itD (varD 2)) (vs := [2, 4]) (vs1 := [4]) (k1 := .nm 2) (k2 := .nm 4) (e := varD 4) (ρ := [.im (.list ss), .im (.int m), x, .no, .no]) ss (fun r => r) intsP (fun _ => PyData.int) (fun _ => PyData.int) (by simp) (by
      have : (ss.flatMap fun x => (intsP x).map PyData.int).length = (ss.flatMap intsP).length := by
        rw [List.length_flatMap, List.length_flatMap]
        simp
      omega) (fun r hr => ⟨_, rfl, by rw [(isl r hr).1]; simp [intsP], fun y hy => ⟨_, rfl, by simp⟩⟩)
    have c2 : (@List.flatMap PD PD (fun x => (intsP x).map PyData.int) ss) = (ss.flatMap intsP).map PyData.int := by
      rw [List.map_flatMap]
    rw [c2] at c1
    generalize ss.flatMap intsP = ns at c1 fl1
    have c3 : ns.length ≤ 4000 := by omega
    have c4 : ns.length ≤ 100000 := by omega
    by_cases hd : ns.Nodup
    · simp [c1, c3, ddL_nodup _ hd, hd, neF_int]
    · have := ddL_len hd
      have h2 : ¬ ((ddL ns).length : Int) = ns.length := by omega
      simp [c1, c3, hd, neF_int, h2]
  · unfold badP
    cases ss.any (fun s => !listB m s || !decide (sortI (intsP s) = intsP s)) <;> simp
/-! #### maths: lawat -/
def atS (ns : List Int) (k : Nat) : Int := ns.getD k 0
theorem at_eq (ns : List Int) (k : Int) (h : 0 ≤ k) : f__law_at [Sc ns, .int k] = .ok (.im (.int (atS ns k.toNat))) := by
  unfold f__law_at
  rw [den_eq]
  by_cases c : k < ns.length
  · have e : atI ns k = some (atS ns k.toNat) := by
      rw [atI_nat _ _ h c, atS, List.getD_eq_getElem?_getD, List.getElem?_eq_getElem (by omega)]
      rfl
    simp [d__law_at, c, atI_map, e]
  · have e : atS ns k.toNat = 0 := by
      rw [atS, List.getD_eq_getElem?_getD, List.getElem?_eq_none (by omega)]
      rfl
    simp [d__law_at, c, e]
def mixed (c k : Int) : Int := (c + 7919 * k + 17) * 48271 % 2147483647
theorem mixed_eq (c k : Int) : f__law_mixed [.int c, .int k] = .ok (.im (.int (mixed c k))) := by
  unfold f__law_mixed
  rw [den_eq]
  simp [d__law_mixed, mixed]
/-! #### maths: shf -/
def shF1 (f : Nat → Int) (t i : Nat) : List Int := ((List.range t).filter fun j => decide (f j = i)).map fun (j : Nat) => (j : Int)
def shF (f : Nat → Int) (h t : Nat) : List (List Int) := (List.range h).map (shF1 f t)
theorem sh_in (f : Nat → Int) (h t k : Nat) (hk : k < h) (hf : f t = k) : (T2 (shF f h t)).set k (T1 (shF1 f t k) ++ [PyData.int t]) = T2 (shF f h (t + 1)) := by
  apply List.ext_getElem
  · simp [shF]
  · intro i h1 h2
    have hi : i < h := by simpa [shF] using h2
    rw [List.getElem_set]
    by_cases c : k = i
    · subst c
      simp [shF, shF1, List.range_succ, List.filter_append, hf]
    · have : ¬(k : Int) = i := by omega
      simp [shF, shF1, c, List.range_succ, List.filter_append, hf, this]
theorem sh_out (f : Nat → Int) (h t : Nat) (hf : ¬f t < h) : shF f h t = shF f h (t + 1) := by
  unfold shF
  apply List.map_congr_left
  intro i hi
  have hi' : i < h := by simpa using hi
  have : ¬f t = i := by omega
  simp [shF1, List.range_succ, List.filter_append, this]
theorem shF_wf (f : Nat → Int) (h m : Nat) : WfS m (shF f h m) := by
  refine ⟨fun s hs v hv => ?_, fun s hs => ?_, ?_⟩
  · simp only [shF, List.mem_map] at hs
    obtain ⟨i, _, rfl⟩ := hs
    simp only [shF1, List.mem_map, List.mem_filter, List.mem_range] at hv
    obtain ⟨j, ⟨hj, _⟩, rfl⟩ := hv
    omega
  · simp only [shF, List.mem_map] at hs
    obtain ⟨i, _, rfl⟩ := hs
    unfold shF1
    rw [List.pairwise_map]
    exact (List.pairwise_lt_range.filter _).imp fun h => by omega
  · rw [List.Nodup, List.pairwise_flatten]
    refine ⟨fun s hs => ?_, ?_⟩
    · simp only [shF, List.mem_map] at hs
      obtain ⟨i, _, rfl⟩ := hs
      unfold shF1
      rw [List.pairwise_map]
      exact (List.pairwise_lt_range.filter _).imp fun h => by omega
    · unfold shF
      rw [List.pairwise_map]
      refine List.pairwise_lt_range.imp fun {a b} hab x hx y hy e => ?_
      simp only [shF1, List.mem_map, List.mem_filter, List.mem_range, decide_eq_true_eq] at hx hy
      obtain ⟨j, ⟨_, hj⟩, rfl⟩ := hx
      obtain ⟨k, ⟨_, hk⟩, rfl⟩ := hy
      have : j = k := by omega
      subst this
      omega
/-! #### maths: text -/
@[simp] theorem lf_str (x : Str) : lf (.str x) = true := by simp [lf]
def tI (i : Int) : Str := Str.ofString (toString i)
theorem strI_ok {i : Int} (h : -100000 ≤ i ∧ i ≤ 100000) : strI i = some (tI i) := by
  unfold strI
  exact if_pos h
theorem strF_ok {i : Int} (h : -100000 ≤ i ∧ i ≤ 100000) : strF [.int i] = some (.str (tI i)) := by
  show (strI i).map PyData.str = _
  rw [strI_ok h]
  rfl
theorem tI_len100 : ∀ k : Fin 100, (tI (k.val : Int)).length ≤ 2 := by decide +kernel
theorem tI_len {i : Int} (h : 0 ≤ i ∧ i < 100) : (tI i).length ≤ 2 := by
  obtain ⟨k, rfl⟩ := Int.eq_ofNat_of_zero_le h.1
  exact tI_len100 ⟨k, by omega⟩
theorem strsOf_mapf {α : Type} (g : α → Str) (xs : List α) : strsOf (xs.map fun v => PyData.str (g v)) = some (xs.map g) := by
  rw [← strsOf_map, List.map_map]; rfl
theorem joinD_ok {c : Str} {e : ED} {ρ : Z.Env} {r : R} {ys : List Str} (h1 : e ρ = .ok r) (h2 : kidsS r.fz = some (ys.map PyData.str)) (h3 : (ys.map (·.length)).sum + ys.length * c.length ≤ 100000) : joinD c e ρ = .ok (.im (.str (Txt.join c ys))) := by
  unfold joinD
  rw [h1, bind_ok, h2]
  simp only [strsOf_map, h3, if_true]
theorem ok_iff (x : Str) : PyData.strOk x = true ↔ ∀ c ∈ TL.tl x, c < 0x110000 := by
  unfold PyData.strOk
  rw [← Array.all_toList, List.all_eq_true]
  simp
theorem ok_of (s : String) : PyData.strOk (Str.ofString s) = true := by
  rw [ok_iff, TL.tl_ofString]
  intro c hc
  simp only [List.mem_map] at hc
  obtain ⟨d, _, rfl⟩ := hc
  have := d.valid
  rcases this with h | h
  · have h2 : d.toNat < 0xd800 := h
    omega
  · exact h.2
theorem ok_app {x y : Str} (h1 : PyData.strOk x = true) (h2 : PyData.strOk y = true) : PyData.strOk (x ++ y) = true := by
  rw [ok_iff] at *
  rw [TL.tl_append]
  intro c hc
  rcases List.mem_append.mp hc with h | h
  · exact h1 c h
  · exact h2 c h
theorem kids_fr0 (l : List PD) : kids (R.fz (.fr 0 l)) = some l := by rw [e_fzf0]; rfl
theorem kidsS_fr0 (l : List PD) : kidsS (R.fz (.fr 0 l)) = some l := by rw [e_fzf0]; rfl
theorem addD_ok {a b : ED} {ρ : Z.Env} {r1 r2 : R} {ds es : List PD} (h1 : a ρ = .ok r1) (h2 : b ρ = .ok r2) (q1 : r1.dat = .list ds) (q2 : r2.dat = .list es) (k1 : kids r1.fz = some ds) (k2 : kids r2.fz = some es) (hl : ds.length + es.length ≤ 100000) : addD a b ρ = .ok (.fr 0 (ds ++ es)) := by
  unfold addD
  rw [h1, bind_ok, h2, bind_ok, q1, q2]
  simp only [k1, k2, hl, if_true]
def foldT (s a : Str) (bs : List Str) : Str := bs.foldl (fun acc b => acc ++ s ++ b) a
theorem tl_foldT (s : Str) : ∀ (bs : List Str) (a : Str), TL.tl (foldT s a bs) = TL.tl a ++ bs.flatMap fun b => TL.tl s ++ TL.tl b
  | [], a => by simp [foldT]
  | b :: bs, a => by
    show TL.tl (foldT s (a ++ s ++ b) bs) = _
    rw [tl_foldT s bs, TL.tl_append, TL.tl_append, List.flatMap_cons, List.append_assoc, List.append_assoc, List.append_assoc]
theorem joinL_flat (S : List Nat) : ∀ (bs : List (List Nat)) (a : List Nat), TL.joinL S (a :: bs) = a ++ bs.flatMap fun b => S ++ b
  | [], a => by simp [TL.joinL]
  | b :: bs, a => by
    show a ++ (S ++ TL.joinL S (b :: bs)) = _
    rw [joinL_flat S bs, List.flatMap_cons, List.append_assoc]
theorem join_fold (s a : Str) (bs : List Str) : Txt.join s (a :: bs) = foldT s a bs := by
  refine TL.ext_tl ?_
  rw [TL.join_eq, TL.tl_join, List.map_cons, joinL_flat, tl_foldT, List.flatMap_map]
theorem foldT_len (s : Str) : ∀ (bs : List Str) (a : Str), (foldT s a bs).length = a.length + (bs.map fun b => s.length + b.length).sum
  | [], a => by simp [foldT]
  | b :: bs, a => by
    show (foldT s (a ++ s ++ b) bs).length = _
    rw [foldT_len s bs, len_app, len_app, List.map_cons, List.sum_cons]
    omega
theorem ok_fold {s : Str} (hs : PyData.strOk s = true) : ∀ (bs : List Str) (a : Str), PyData.strOk a = true → (∀ b ∈ bs, PyData.strOk b = true) → PyData.strOk (foldT s a bs) = true
  | [], a, h, _ => h
  | b :: bs, a, h, h2 => ok_fold hs bs (a ++ s ++ b) (ok_app (ok_app h hs) (h2 b List.mem_cons_self)) fun x hx => h2 x (List.mem_cons_of_mem _ hx)
theorem ok_join {s : Str} (hs : PyData.strOk s = true) : ∀ (bs : List Str), (∀ b ∈ bs, PyData.strOk b = true) → PyData.strOk (Txt.join s bs) = true
  | [], _ => by rw [TL.join_eq, ok_iff, TL.tl_join]; exact fun c h => nomatch h
  | a :: bs, h => by
    rw [join_fold]
    exact ok_fold hs bs a (h a List.mem_cons_self) fun x hx => h x (List.mem_cons_of_mem _ hx)
abbrev sCol : Str := Str.ofString ":"
abbrev sSp : Str := Str.ofString " "
abbrev sNl : Str := Str.ofString "\n"
theorem lCol : sCol.length = 1 := by decide +kernel
theorem lSp : sSp.length = 1 := by decide +kernel
theorem lNl : sNl.length = 1 := by decide +kernel
def rowT (i : Nat) (r : List Int) : Str := foldT sSp (tI i ++ sCol) (r.map tI)
def rowsT (rs : List (List Int)) (n : Nat) : List Str := (List.range n).map fun i => rowT i (rs.getD i [])
theorem rowsT_succ (rs : List (List Int)) (n : Nat) : rowsT rs (n + 1) = rowsT rs n ++ [rowT n (rs.getD n [])] := by simp [rowsT, List.range_succ]
def TS (l : List Str) : List PD := l.map PyData.str
theorem TS_len (l : List Str) : (TS l).length = l.length := by simp [TS]
theorem TS_app (l : List Str) (x : Str) : TS l ++ [PyData.str x] = TS (l ++ [x]) := by simp [TS]
def textT (rs : List (List Int)) : Str := Txt.join sNl (rowsT rs rs.length)
theorem ok_row (i : Nat) (r : List Int) : PyData.strOk (rowT i r) = true := by
  refine ok_fold (ok_of _) _ _ (ok_app (ok_of _) (ok_of _)) fun b hb => ?_
  simp only [List.mem_map] at hb
  obtain ⟨v, _, rfl⟩ := hb
  exact ok_of _
theorem ok_text (rs : List (List Int)) : PyData.strOk (textT rs) = true := by
  refine ok_join (ok_of _) _ fun b hb => ?_
  simp only [rowsT, List.mem_map] at hb
  obtain ⟨v, _, rfl⟩ := hb
  exact ok_row _ _
theorem eqv_str (a b : Str) : PyData.eqv (.str a) (.str b) = decide (a = b) := by simp [PyData.eqv]; rfl
theorem shp_str {a : Str} (h : PyData.strOk a = true) : shp (.str a) = true := by simp [shp, noD, SeqAt.shaped, PyData.canLay0, PyData.depth, h]
theorem neF_str {a b : Str} (h1 : PyData.strOk a = true) (h2 : PyData.strOk b = true) : neF (.str a) (.str b) = some (.bool (!decide (a = b))) := by simp [neF, shp_str h1, shp_str h2, eqv_str]
theorem eqF_str {a b : Str} (h1 : PyData.strOk a = true) (h2 : PyData.strOk b = true) : eqF (.str a) (.str b) = some (.bool (decide (a = b))) := by simp [eqF, shp_str h1, shp_str h2, eqv_str]
theorem sum_le {α : Type} (f : α → Nat) (b : Nat) : ∀ (l : List α), (∀ x ∈ l, f x ≤ b) → (l.map f).sum ≤ b * l.length
  | [], _ => by simp
  | x :: l, h => by
    have h1 := h x List.mem_cons_self
    have h2 := sum_le f b l fun y hy => h y (List.mem_cons_of_mem _ hy)
    rw [List.map_cons, List.sum_cons, List.length_cons, Nat.mul_add]
    omega
theorem rowT_len {i : Nat} {r : List Int} (hi : i < 100) (h : ∀ v ∈ r, 0 ≤ v ∧ v < 100) : (rowT i r).length ≤ 3 + 3 * r.length := by
  unfold rowT
  rw [foldT_len, len_app, lCol, lSp, List.map_map]
  have h1 := tI_len (i := (i : Int)) (by omega)
  have h2 := sum_le ((fun b : Str => 1 + b.length) ∘ tI) 3 r fun v hv => by
    have := tI_len (h v hv)
    simp only [Function.comp]
    omega
  omega
structure OkT (rs : List (List Int)) : Prop where
  h9 : rs.length ≤ 50
  len : ∀ r ∈ rs, r.length ≤ 500
  num : ∀ r ∈ rs, ∀ v ∈ r, 0 ≤ v ∧ v < 100
theorem OkT.get {rs : List (List Int)} (h : OkT rs) (i : Nat) : (rs.getD i []).length ≤ 500 ∧ ∀ v ∈ rs.getD i [], 0 ≤ v ∧ v < 100 := by
  by_cases c : i < rs.length
  · rw [List.getD_eq_getElem?_getD, List.getElem?_eq_getElem c]
    exact ⟨h.len _ (List.getElem_mem c), h.num _ (List.getElem_mem c)⟩
  · rw [List.getD_eq_getElem?_getD, List.getElem?_eq_none (by omega)]
    exact ⟨by simp, fun v hv => by simp at hv⟩
theorem OkT.row {rs : List (List Int)} (h : OkT rs) {i : Nat} (hi : i < 50) : (rowT i (rs.getD i [])).length ≤ 1503 := by
  have h1 := h.get i
  have := rowT_len (i := i) (by omega) h1.2
  omega
theorem OkT.sum {rs : List (List Int)} (h : OkT rs) : ((rowsT rs rs.length).map (·.length)).sum + (rowsT rs rs.length).length * sNl.length ≤ 100000 := by
  unfold rowsT
  rw [List.map_map, List.length_map, List.length_range, lNl]
  have h2 := sum_le ((fun b : Str => b.length) ∘ fun i => rowT i (rs.getD i [])) 1503 (List.range rs.length) fun i hi => by
    simp only [List.mem_range] at hi
    have := h.h9
    exact h.row (by omega)
  rw [List.length_range] at h2
  have := h.h9
  omega
theorem text_eq {rs : List (List Int)} (W : OkT rs) : f__law_text [LL rs] = .ok (.im (.str (textT rs))) := by
  have a1 := W.h9
  have a2 : (-100000 : Int) ≤ (rs.length : Int) ∧ (rs.length : Int) ≤ 100000 := by omega
  unfold f__law_text
  rw [den_eq]
  simp [d__law_text]
  refine fin_for (fun i ρ => ∃ x y z, ρ = [.im (LL rs), .ow 0 (TS (rowsT rs i)), x, y, z]) (List.range rs.length) (fun (i : Nat) => PyData.int i) (by simp [a2, rg_all]) ⟨.no, .no, .no, rfl⟩ ?_ ?_
  · rintro i hi ρ ⟨x, y, z, rfl⟩
    have hi' : i < rs.length := by simpa using hi
    have b1 := strF_ok (i := (i : Int)) (by omega)
    have b2 := tI_len (i := (i : Int)) (by omega)
    have b3 : rs[i]? = some (rs.getD i []) := by rw [List.getD_eq_getElem?_getD, List.getElem?_eq_getElem hi']; rfl
    have b4 := W.get i
    have e5 : atI rs (i : Int) = some (rs.getD i []) := by rw [Z.atI_nat _ _ (by omega) (by omega), Int.toNat_natCast, b3]
    have b5 := lCol
    generalize hr : rs.getD i [] = r at b3 b4 e5
    have b6 : (tI (i : Int)).length + sCol.length ≤ 100000 := by omega
    simp only [sCol] at b6
    simp [b1, b6]
    refine stp_for (fun j ρ => ∃ z, ρ = [.im (LL rs), .ow 0 (TS (rowsT rs i)), .im (.int i), .im (.str (foldT sSp (tI i ++ sCol) ((r.take j).map tI))), z]) r PyData.int (by simp [atI_map, e5]) ⟨z, by simp [foldT]⟩ ?_ ?_
    · rintro j hj ρ ⟨z, rfl⟩
      have c1 := b4.2 _ (List.getElem_mem hj)
      have c2 := strF_ok (i := r[j]) (by omega)
      have c3 := tI_len c1
      have c4 : (foldT sSp (tI i ++ sCol) ((r.take j).map tI)).length ≤ 3 + 3 * (r.take j).length := rowT_len (by omega) fun v hv => b4.2 v (List.mem_of_mem_take hv)
      have c5 : (r.take j).length ≤ 500 := by rw [List.length_take]; omega
      have c6 := lSp
      have c7 : (r.take (j + 1)).map tI = (r.take j).map tI ++ [tI r[j]] := by
        rw [List.take_add_one, List.map_append, List.getElem?_eq_getElem hj]
        rfl
      have c8 : foldT sSp (tI i ++ sCol) ((r.take (j + 1)).map tI) = foldT sSp (tI i ++ sCol) ((r.take j).map tI) ++ sSp ++ tI r[j] := by
        rw [c7]
        unfold foldT
        rw [List.foldl_append]
        rfl
      generalize foldT sSp (tI i ++ sCol) ((r.take j).map tI) = acc at c4 c8
      have c9 : acc.length + sSp.length ≤ 100000 := by omega
      have c10 : (acc ++ sSp).length + (tI r[j]).length ≤ 100000 := by rw [len_app]; omega
      simp only [sSp] at c9 c10 c8
      simp [c2, c9, c10]
      refine stp_nx ?_
      rw [List.map_take] at c8
      exact ⟨_, by rw [c8]⟩
    · rintro ρ ⟨z, rfl⟩
      have c5 : (TS (rowsT rs i)).length ≤ 100000 := by rw [TS_len]; simp [rowsT]; omega
      simp [c5]
      refine stp_nx ?_
      exact ⟨.im (.int i), .im (.str (rowT i r)), z, by rw [TS_app, rowsT_succ, hr]; rfl⟩
  · rintro ρ ⟨x, y, z, rfl⟩
    have c := joinD_ok (c := sNl) (e := varD 1) (ρ := [.im (LL rs), .ow 0 (TS (rowsT rs rs.length)), x, y, z]) (r := .ro 0 (TS (rowsT rs rs.length))) (ys := rowsT rs rs.length) (by simp) (by simp [TS]) W.sum
    simp only [LL, L1, sNl] at c
    simp [c, textT]
/-! #### maths: parts14 -/
def toOf (ns : List Int) (h j : Nat) : Int := mixed (atS ns (2 + j % 20)) j / 5 % ((h : Int) + atS ns 1 % 40)
def partsOf (ns : List Int) (h : Nat) : List (List Int) := shF (toOf ns h) h 40
theorem parts_wf (ns : List Int) (h : Nat) : WfS 40 (partsOf ns h) := shF_wf _ h 40
theorem parts_len (ns : List Int) (h : Nat) : (partsOf ns h).length = h := by simp [partsOf, shF]
theorem parts_eq (ns : List Int) (h : Nat) (hh : 1 + atS ns 0 % 9 = (h : Int)) (h1 : 1 ≤ h) (h9 : h ≤ 9) : f__law_parts [Sc ns] = .ok (.fr 1 (T2 (partsOf ns h))) := by
  unfold f__law_parts
  rw [den_eq]
  have a0 := at_eq ns 0 (by omega)
  have rg40 : (rangeL 0 40).map PyData.int = (List.range 40).map fun (i : Nat) => PyData.int (i : Int) := rg_all 40
  have a3 : (-100000 : Int) ≤ (h : Int) ∧ (h : Int) ≤ 100000 := by omega
  have c1 := lcFD_all (n := 0) (s := rg1D (varD 1)) (vs := [5]) (k := .nm 5) (e := lstD nilA) (ρ := [.im (Sc ns), .im (.int h), .no, .no, .no, .no]) (List.range h) (fun (i : Nat) => PyData.int i) (fun _ => ([] : List PD)) (by simp [a3]) (by simp; omega) (fun x hx => ⟨_, rfl, by simp⟩)
  have c2 : (@List.map Nat (Ty 1) (fun _ => ([] : List PD)) (List.range h)) = T2 (shF (toOf ns h) h 0) := by
    simp only [T2, shF, List.map_map]
    exact List.map_congr_left fun i _ => by simp [shF1]; rfl
  have b3 := at_eq ns 1 (by omega)
  rw [c2] at c1
  simp only [Sc] at c1 b3 a0
  simp only [show d__law_parts = seqD (asgD 1 (addD (cD (.int 1)) (binR modI (callD f__law_at (consA (varD 0) (consA (cD (.int 0)) nilA))) (cD (.int 9))))) (seqD (asgD 2 (lcFD 0 (rg1D (varD 1)) [5] (.nm 5) yesT (lstD nilA))) _) from rfl]
  simp only [List.map_cons, List.map_nil, List.cons_append, List.nil_append, List.replicate]
  rw [seq_of (ρ' := [.im (Sc ns), .im (.int h), .no, .no, .no, .no]) (by simp [a0, hh]), seq_asg, c1]
  simp
  refine fin_for (fun t ρ => ∃ x y, ρ = [.im (Sc ns), .im (.int h), .ow 1 (T2 (shF (toOf ns h) h t)), x, y, .no]) (List.range 40) (fun (i : Nat) => PyData.int i) (by simp [rg40]) ⟨.no, .no, by simp⟩ ?_ ?_
  · rintro t ht ρ ⟨x, y, rfl⟩
    have ht' : t < 40 := by simpa using ht
    have b2 := at_eq ns (2 + (t : Int) % 20) (by omega)
    rw [show (2 + (t : Int) % 20).toNat = 2 + t % 20 by omega] at b2
    simp only [Sc] at b2
    have b4 : 0 < (h : Int) + atS ns 1 % 40 := by omega
    have b6 : mixed (atS ns (2 + t % 20)) t / 5 % ((h : Int) + atS ns 1 % 40) = toOf ns h t := rfl
    have b7 : 0 ≤ toOf ns h t := Int.emod_nonneg _ (by omega)
    by_cases c : toOf ns h t < h
    · obtain ⟨k, hk⟩ : ∃ k : Nat, toOf ns h t = k := ⟨(toOf ns h t).toNat, by omega⟩
      have hk' : k < h := by omega
      have c3 : (shF1 (toOf ns h) t k).length ≤ t := by
        unfold shF1
        rw [List.length_map]
        exact Nat.le_trans (List.length_filter_le _ _) (by simp)
      have c2 := app_ix (i := 2) (ρ := [.im (Sc ns), .im (.int h), .ow 1 (T2 (shF (toOf ns h) h t)), .im (.int t), .im (.int (toOf ns h t)), .no]) (l := T2 (shF (toOf ns h) h t)) (k := k) (d := .int t) (e2 := varD 4) (e := varD 3) (u := T1 (shF1 (toOf ns h) t k)) rfl (by simp [hk]) rfl (by simp [shF, hk']) (by simp; omega)
      rw [sh_in _ _ _ _ hk' hk] at c2
      simp only [Sc, T2, T1] at c2
      simp [b2, b3, mixed_eq, b4, b6, c, c2]
      refine stp_nx ?_
      exact ⟨_, _, rfl⟩
    · have c2 := sh_out _ _ _ c
      simp [b2, b3, mixed_eq, b4, b6, c]
      refine stp_nx ?_
      rw [c2]
      exact ⟨_, _, rfl⟩
  · rintro ρ ⟨x, y, rfl⟩
    simp [partsOf]
/-! #### maths: spl14 -/
/-! cutting a text at a sign, and putting it together -/
theorem pre1 (s c : Nat) (r : List Nat) : TL.pre [s] (c :: r) = decide (c = s) := by
  by_cases h : c = s <;> simp [TL.pre, h]
theorem spl_cons (s c : Nat) (acc r : List Nat) : TL.spl [s] 0 acc (c :: r) = if c = s then acc :: TL.spl [s] 0 [] r else TL.spl [s] 0 (acc ++ [c]) r := by
  by_cases h : c = s
  · rw [if_pos h]
    exact TL.spl_hit (by rw [pre1]; simpa using h)
  · rw [if_neg h]
    exact TL.spl_miss (by rw [pre1]; simpa using h)
theorem spl_shape (s : Nat) : ∀ (L acc : List Nat), ∃ p ps, TL.spl [s] 0 acc L = p :: ps
  | [], acc => ⟨acc, [], TL.spl_nil _ _ _⟩
  | c :: r, acc => by
    rw [spl_cons]
    by_cases h : c = s
    · rw [if_pos h]; exact ⟨_, _, rfl⟩
    · rw [if_neg h]; exact spl_shape s r _
theorem joinL_cons (S p q : List Nat) (r : List (List Nat)) : TL.joinL S (p :: q :: r) = p ++ (S ++ TL.joinL S (q :: r)) := rfl
theorem join_spl (s : Nat) : ∀ (L acc : List Nat), TL.joinL [s] (TL.spl [s] 0 acc L) = acc ++ L
  | [], acc => by rw [TL.spl_nil, List.append_nil]; rfl
  | c :: r, acc => by
    rw [spl_cons]
    by_cases h : c = s
    · rw [if_pos h]
      obtain ⟨p, ps, e⟩ := spl_shape s r []
      have ih := join_spl s r []
      rw [e] at ih ⊢
      rw [joinL_cons, ih, h]
      rfl
    · rw [if_neg h, join_spl s r, List.append_assoc]
      rfl
theorem spl_mem (s : Nat) : ∀ (L acc : List Nat), ∀ p ∈ TL.spl [s] 0 acc L, ∀ c ∈ p, c ∈ acc ∨ c ∈ L
  | [], acc => fun p hp c hc => by
    rw [TL.spl_nil] at hp
    rw [List.mem_singleton.mp hp] at hc
    exact .inl hc
  | x :: r, acc => fun p hp c hc => by
    rw [spl_cons] at hp
    by_cases h : x = s
    · rw [if_pos h] at hp
      rcases List.mem_cons.mp hp with e | e
      · rw [e] at hc; exact .inl hc
      · rcases spl_mem s r [] p e c hc with q | q
        · cases q
        · exact .inr (List.mem_cons_of_mem _ q)
    · rw [if_neg h] at hp
      rcases spl_mem s r _ p hp c hc with q | q
      · rcases List.mem_append.mp q with q | q
        · exact .inl q
        · rw [List.mem_singleton.mp q]; exact .inr List.mem_cons_self
      · exact .inr (List.mem_cons_of_mem _ q)
theorem spl_sum (s : Nat) : ∀ (L acc : List Nat), ((TL.spl [s] 0 acc L).map List.length).sum + (TL.spl [s] 0 acc L).length = acc.length + L.length + 1
  | [], acc => by rw [TL.spl_nil]; simp
  | c :: r, acc => by
    rw [spl_cons]
    by_cases h : c = s
    · rw [if_pos h]
      have ih := spl_sum s r []
      simp only [List.map_cons, List.sum_cons, List.length_cons, List.length_nil] at ih ⊢
      omega
    · rw [if_neg h]
      have ih := spl_sum s r (acc ++ [c])
      rw [List.length_append, List.length_singleton] at ih
      rw [List.length_cons]
      omega
/-- a text of one sign -/
structure One (y : Str) (s : Nat) : Prop where
  t : TL.tl y = [s]
  k : y.cps.all (· < 256) = true
theorem oNl : One sNl 10 := ⟨by decide +kernel, by decide +kernel⟩
theorem oSp : One sSp 32 := ⟨by decide +kernel, by decide +kernel⟩
theorem split_tl (x : Str) {y : Str} {s : Nat} (o : One y s) : (Txt.split x y).map TL.tl = TL.spl [s] 0 [] (TL.tl x) := by
  have := TL.split_spl x y (by rw [o.t]; simp) (TL.kind_ok o.k)
  rw [o.t] at this
  exact this
theorem join_split (x : Str) {y : Str} {s : Nat} (o : One y s) : Txt.join y (Txt.split x y) = x := by
  refine TL.ext_tl ?_
  rw [TL.join_eq, TL.tl_join, split_tl x o, o.t, join_spl, List.nil_append]
theorem split_join {y : Str} {s : Nat} (o : One y s) {ps : List Str} (hne : ps ≠ []) (hp : ∀ p ∈ ps, s ∉ TL.tl p) : Txt.split (Txt.join y ps) y = ps := TL.split_join o.t o.k hne hp
theorem split_ok {x y : Str} {s : Nat} (o : One y s) (h : PyData.strOk x = true) : ∀ p ∈ Txt.split x y, PyData.strOk p = true := fun p hp => by
  rw [ok_iff] at h ⊢
  intro c hc
  have hm : TL.tl p ∈ TL.spl [s] 0 [] (TL.tl x) := by rw [← split_tl x o]; exact List.mem_map_of_mem hp
  rcases spl_mem s _ _ _ hm c hc with q | q
  · cases q
  · exact h c q
theorem split_sum (x : Str) {y : Str} {s : Nat} (o : One y s) : ((Txt.split x y).map (·.length)).sum + (Txt.split x y).length = x.length + 1 := by
  have h := spl_sum s (TL.tl x) []
  rw [← split_tl x o, List.map_map, List.length_map] at h
  have e : (Txt.split x y).map (List.length ∘ TL.tl) = (Txt.split x y).map (·.length) := List.map_congr_left fun p _ => (TL.len_tl p).symm
  rw [e, List.length_nil, ← TL.len_tl] at h
  omega
theorem split_ne (x : Str) {y : Str} {s : Nat} (o : One y s) : Txt.split x y ≠ [] := fun e => by
  have := split_tl x o
  rw [e] at this
  obtain ⟨p, ps, q⟩ := spl_shape s (TL.tl x) []
  rw [q] at this
  cases this
theorem mem_le_sum {α : Type} (f : α → Nat) : ∀ (l : List α) (x : α), x ∈ l → f x ≤ (l.map f).sum
  | y :: l, x, h => by
    rw [List.map_cons, List.sum_cons]
    rcases List.mem_cons.mp h with rfl | h
    · omega
    · have := mem_le_sum f l x h
      omega
theorem split_len (x : Str) {y : Str} {s : Nat} (o : One y s) : (Txt.split x y).length ≤ x.length + 1 := by have := split_sum x o; omega
theorem split_plen (x : Str) {y : Str} {s : Nat} (o : One y s) {p : Str} (hp : p ∈ Txt.split x y) : p.length ≤ x.length := by
  have h1 := split_sum x o
  have h2 := mem_le_sum (fun q : Str => q.length) _ p hp
  have h3 : 0 < (Txt.split x y).length := List.length_pos_of_mem hp
  omega
/-! #### maths: num14 -/
/-! numbers up to 39, and their texts -/
def numV (w : Str) : Int := (PySem.intText? w).getD 0
def sDig : Str := Str.ofString "0123456789"
def wOk (w : Str) : Bool := !decide (w.length = 0) && decide (w.length ≤ 2) && (TL.tl w).all fun c => decide (c ∈ TL.tl sDig)
theorem tI_ok40 : ∀ k : Fin 40, wOk (tI (k.val : Int)) = true := by decide +kernel
theorem tI_val40 : ∀ k : Fin 40, PySem.intText? (tI (k.val : Int)) = some (k.val : Int) := by decide +kernel
theorem dig_tl : TL.tl sDig = [48, 49, 50, 51, 52, 53, 54, 55, 56, 57] := by decide +kernel
theorem dig1 : ∀ a : Fin 10, PySem.intText? ⟨#[48 + a.val]⟩ = some (a.val : Int) := by decide +kernel
theorem dig2 : ∀ a b : Fin 10, PySem.intText? ⟨#[48 + a.val, 48 + b.val]⟩ = some ((10 * a.val + b.val : Nat) : Int) := by decide +kernel
theorem dig_of {c : Nat} (h : c ∈ TL.tl sDig) : ∃ a : Fin 10, c = 48 + a.val := by
  rw [dig_tl] at h
  simp only [List.mem_cons, List.not_mem_nil, or_false] at h
  exact ⟨⟨c - 48, by omega⟩, by show c = 48 + (c - 48); omega⟩
theorem wOk_val {w : Str} (h : wOk w = true) : ∃ n : Int, PySem.intText? w = some n ∧ 0 ≤ n ∧ n < 100 := by
  simp only [wOk, Bool.and_eq_true, Bool.not_eq_true', decide_eq_false_iff_not, decide_eq_true_eq, List.all_eq_true] at h
  obtain ⟨⟨h1, h2⟩, h3⟩ := h
  rw [TL.len_tl] at h1 h2
  have e : w = ⟨(TL.tl w).toArray⟩ := (TL.mk_tl w).symm
  revert h1 h2 h3 e
  generalize TL.tl w = l
  intro h3 h1 h2 e
  match l, h1, h2, h3, e with
  | [a], _, _, h3, e =>
    obtain ⟨x, rfl⟩ := dig_of (h3 a (by simp))
    rw [e]
    exact ⟨_, dig1 x, by omega, by omega⟩
  | [a, b], _, _, h3, e =>
    obtain ⟨x, rfl⟩ := dig_of (h3 a (by simp))
    obtain ⟨y, rfl⟩ := dig_of (h3 b (by simp))
    rw [e]
    exact ⟨_, dig2 x y, by omega, by omega⟩
theorem numV_tI {v : Int} (h : 0 ≤ v ∧ v < 40) : numV (tI v) = v := by
  obtain ⟨k, rfl⟩ := Int.eq_ofNat_of_zero_le h.1
  have := tI_val40 ⟨k, by omega⟩
  simp only [numV]
  rw [this]
  rfl
theorem wOk_tI {v : Int} (h : 0 ≤ v ∧ v < 40) : wOk (tI v) = true := by
  obtain ⟨k, rfl⟩ := Int.eq_ofNat_of_zero_le h.1
  exact tI_ok40 ⟨k, by omega⟩
theorem tI_tl {v : Int} (h : 0 ≤ v) : TL.tl (tI v) = TL.numL v.toNat := by
  obtain ⟨k, rfl⟩ := Int.eq_ofNat_of_zero_le h
  exact TL.tl_num k
theorem tI_free {v : Int} (h : 0 ≤ v) {s : Nat} (hs : s < 48 ∨ 57 < s) : s ∉ TL.tl (tI v) := by
  rw [tI_tl h]
  exact TL.numL_free hs
theorem tI_inj {v u : Int} (h : 0 ≤ v) (h2 : 0 ≤ u) (e : tI v = tI u) : v = u := by
  have := congrArg TL.tl e
  rw [tI_tl h, tI_tl h2] at this
  have := TL.numL_inj this
  omega
def nums : List Str := (List.range 40).map fun (k : Nat) => tI (k : Int)
theorem mem_nums (w : Str) : w ∈ nums ↔ ∃ v : Int, (0 ≤ v ∧ v < 40) ∧ w = tI v := by
  unfold nums
  rw [List.mem_map]
  constructor
  · rintro ⟨k, hk, rfl⟩
    exact ⟨k, by simp at hk; omega, rfl⟩
  · rintro ⟨v, h, rfl⟩
    exact ⟨v.toNat, by simp; omega, by congr 1; omega⟩
/-! the text of a row, of all rows -/
theorem tl_row (i : Nat) (r : List Int) : rowT i r = Txt.join sSp ((tI i ++ sCol) :: r.map tI) := (join_fold _ _ _).symm
theorem row_split (i : Nat) {r : List Int} (h : ∀ v ∈ r, 0 ≤ v) : Txt.split (rowT i r) sSp = (tI i ++ sCol) :: r.map tI := by
  rw [tl_row]
  refine split_join oSp (by simp) fun p hp => ?_
  rcases List.mem_cons.mp hp with rfl | hp
  · rw [TL.tl_append, List.mem_append, not_or]
    exact ⟨tI_free (by omega) (by omega), by decide +kernel⟩
  · obtain ⟨v, hv, rfl⟩ := List.mem_map.mp hp
    exact tI_free (h v hv) (by omega)
theorem tl_foldT_mem (s : Str) (a : Str) (bs : List Str) (c : Nat) (h : c ∈ TL.tl (foldT s a bs)) : c ∈ TL.tl a ∨ c ∈ TL.tl s ∨ ∃ b ∈ bs, c ∈ TL.tl b := by
  rw [tl_foldT] at h
  rcases List.mem_append.mp h with h | h
  · exact .inl h
  · obtain ⟨b, hb, h⟩ := List.mem_flatMap.mp h
    rcases List.mem_append.mp h with h | h
    · exact .inr (.inl h)
    · exact .inr (.inr ⟨b, hb, h⟩)
theorem row_free (i : Nat) {r : List Int} (h : ∀ v ∈ r, 0 ≤ v) : 10 ∉ TL.tl (rowT i r) := fun q => by
  rcases tl_foldT_mem _ _ _ _ q with q | q | ⟨b, hb, q⟩
  · rw [TL.tl_append, List.mem_append] at q
    rcases q with q | q
    · exact tI_free (by omega) (by omega) q
    · exact absurd q (by decide +kernel)
  · exact absurd q (by decide +kernel)
  · obtain ⟨v, hv, rfl⟩ := List.mem_map.mp hb
    exact tI_free (h v hv) (by omega) q
theorem text_split {rs : List (List Int)} (hne : rs ≠ []) (h : ∀ r ∈ rs, ∀ v ∈ r, 0 ≤ v) : Txt.split (textT rs) sNl = rowsT rs rs.length := by
  unfold textT
  refine split_join oNl (fun e => hne ?_) fun p hp => ?_
  · have := congrArg List.length e
    simp [rowsT] at this
    exact this
  · unfold rowsT at hp
    obtain ⟨i, hi, rfl⟩ := List.mem_map.mp hp
    have hi' : i < rs.length := by simpa using hi
    refine row_free i fun v hv => ?_
    rw [List.getD_eq_getElem?_getD, List.getElem?_eq_getElem hi'] at hv
    exact h _ (List.getElem_mem hi') v hv
/-! #### maths: row14 -/
/-! a row, read -/
def ws (r : Str) : List Str := Txt.split r sSp
def rowB (i : Nat) (r : Str) : Bool := decide ((ws r).head? = some (tI i ++ sCol)) && ((ws r).drop 1).all fun w => decide (w ∈ nums)
def rowV (r : Str) : List Int := ((ws r).drop 1).map numV
theorem noDs_TS (l : List Str) : noDs (TS l) = true := by
  unfold TS
  induction l with
  | nil => rfl
  | cons n ns ih => simpa [noDs, noD] using ih
theorem canLay_TS (l : List Str) (h : ∀ x ∈ l, PyData.strOk x = true) : PyData.canLayAll0 (TS l) = true := by
  unfold TS
  induction l with
  | nil => rfl
  | cons n ns ih =>
    have h1 := h n List.mem_cons_self
    have h2 := ih fun x hx => h x (List.mem_cons_of_mem _ hx)
    simp only [List.map_cons, PyData.canLayAll0, PyData.canLay0, h1, h2, Bool.and_self]
theorem depth_TS (l : List Str) : PyData.depthAll (TS l) = 0 := by
  unfold TS
  induction l with
  | nil => simp [PyData.depthAll]
  | cons n ns ih => simp [PyData.depthAll, PyData.depth] at ih ⊢; exact ih
theorem shp_TS (l : List Str) (h : ∀ x ∈ l, PyData.strOk x = true) : shp (.list (TS l)) = true := by
  simp [shp, noD, SeqAt.shaped, PyData.canLay0, PyData.depth, noDs_TS, canLay_TS l h, depth_TS]
theorem any_str (l : List Str) (w : Str) : ((TS l).any fun z => PyData.eqv z (.str w)) = decide (w ∈ l) := by
  unfold TS
  induction l with
  | nil => simp
  | cons a l ih =>
    simp only [List.map_cons, List.any_cons] at ih ⊢
    rw [ih, eqv_str]
    by_cases h1 : a = w
    · subst h1; simp
    · have h3 : ¬w = a := fun e => h1 e.symm
      simp [h1, h3]
theorem niF_strs {l : List Str} {w : Str} (h : ∀ x ∈ l, PyData.strOk x = true) (hw : PyData.strOk w = true) : niF (.str w) (.list (TS l)) = some (.bool (!decide (w ∈ l))) := by
  unfold niF
  simp only [shp_str hw, shp_TS l h, Bool.and_self, if_true, any_str]
theorem nums_ok : ∀ x ∈ nums, PyData.strOk x = true := fun x hx => by
  obtain ⟨v, _, rfl⟩ := (mem_nums x).mp hx
  exact ok_of _
theorem nums_len : nums.length = 40 := by simp [nums]
theorem index_nums {w : Str} (hm : w ∈ nums) : indexF (TS nums) (.str w) = some (.int (numV w)) := by
  obtain ⟨v, hv, rfl⟩ := (mem_nums w).mp hm
  obtain ⟨k, rfl⟩ := Int.eq_ofNat_of_zero_le hv.1
  have hk : k < 40 := by omega
  have e : (TS nums).findIdx? (fun z => PyData.eqv z (.str (tI (k : Int)))) = some k := by
    rw [List.findIdx?_eq_some_iff_getElem]
    refine ⟨by rw [TS_len, nums_len]; exact hk, ?_, fun j hj => ?_⟩
    · simp [TS, nums, eqv_str]
    · simp only [TS, nums, List.getElem_map, List.getElem_range, eqv_str]
      intro q
      have := tI_inj (by omega) (by omega) (of_decide_eq_true q)
      omega
  have s1 := shp_TS nums nums_ok
  have s2 : shp (.str (tI (k : Int))) = true := shp_str (ok_of _)
  unfold indexF
  rw [s1, s2]
  simp only [Bool.and_self, if_true]
  rw [e, numV_tI hv]
  rfl
theorem splitD_ok {a b : ED} {ρ : Z.Env} {x y : Str} {ra rb : R} (h1 : a ρ = .ok ra) (q1 : ra.dat = .str x) (h2 : b ρ = .ok rb) (q2 : rb.dat = .str y) (hy : y.length ≠ 0) (hl : x.length + 2 ≤ 100000) : splitD a b ρ = .ok (.fr 0 (TS (Txt.split x y))) := by
  unfold splitD
  rw [h1, bind_ok, q1]
  simp only
  rw [h2, bind_ok, q2]
  simp only
  rw [if_pos ⟨by simpa using hy, hl⟩]
  rfl
theorem itJ_fr {e : ED} {ρ : Z.Env} {ds : List PD} (h : e ρ = .ok (.fr 0 ds)) : itJ e ρ = .ok ds := by
  unfold itJ
  rw [h, bind_ok, e_fzf0]
  rfl
theorem itD_fr {e : ED} {ρ : Z.Env} {ds : List PD} (h : e ρ = .ok (.fr 0 ds)) : itD e ρ = .ok ds := by
  unfold itD
  rw [h, bind_ok, e_fzf0]
theorem at0 {α : Type} (d : α) (ds : List α) : atI (d :: ds) 0 = some d := by
  rw [Z.atI_nat _ _ (by omega) (by simp)]
  rfl
theorem row_eq {i : Nat} {r : Str} (hi : i ≤ 1000) (hok : PyData.strOk r = true) (hl : r.length ≤ 1000) : f_things_of_row [.str r, .int i] = if rowB i r then .ok (.fr 0 (T1 (rowV r))) else .ex "BadNote" := by
  have wl : (ws r).length ≤ 1001 := Nat.le_trans (split_len r oSp) (by omega)
  have wok : ∀ w ∈ ws r, PyData.strOk w = true := split_ok oSp hok
  obtain ⟨w0, us, ew⟩ : ∃ w0 us, ws r = w0 :: us := by
    cases e : ws r with
    | nil => exact absurd e (split_ne r oSp)
    | cons a b => exact ⟨a, b, rfl⟩
  have u1 : splitD (varD 0) (cD (.str (Str.ofString " "))) [.im (.str r), .im (.int i), .no, .no, .no, .no] = .ok (.fr 0 (TS (ws r))) :=
    splitD_ok (ra := .im (.str r)) rfl rfl rfl rfl (by rw [lSp]; decide) (by omega)
  have t2 : tI (i : Int) = Str.ofString (toString (i : Int)) := rfl
  have fj : fjD (varD 1) (Str.ofString ":") [.im (.str r), .im (.int i), .ow 0 (TS (ws r)), .no, .no, .no] = .ok (.im (.str (tI i ++ sCol))) := by
    have t2 := strI_ok (i := (i : Int)) (by omega)
    have t3 : (tI (i : Int)).length ≤ 50 := by
      have := TL.numL_len (n := i) (k := 4) (by omega) (by omega)
      rw [TL.len_tl, tI_tl (by omega)]
      rw [Int.toNat_natCast]
      omega
    have l6 : (tI (i : Int)).length + sCol.length ≤ 100000 := by rw [lCol]; omega
    unfold fjD
    simp only [un_var, List.getElem?_cons_succ, List.getElem?_cons_zero, e_vdi, bind_ok, e_dat1, fmtF, t2, l6, if_true]
  have tt : tstD (binR neF (ixD (varD 2) (cD (.int 0))) (fjD (varD 1) (Str.ofString ":"))) [.im (.str r), .im (.int i), .ow 0 (TS (ws r)), .no, .no, .no] = .ok (!decide (w0 = tI i ++ sCol)) := by
    have a1 : atI (TS (ws r)) 0 = some (.str w0) := by rw [ew]; exact at0 _ _
    have a2 : ixD (varD 2) (cD (.int 0)) [.im (.str r), .im (.int i), .ow 0 (TS (ws r)), .no, .no, .no] = .ok (.im (.str w0)) := by
      simp [a1]
    unfold tstD binR
    have o2 : PyData.strOk (tI (i : Int) ++ sCol) = true := ok_app (ok_of _) (ok_of _)
    rw [a2, bind_ok, fj, bind_ok, e_dat1, e_dat1, neF_str (wok w0 (by rw [ew]; exact List.mem_cons_self)) o2]
    simp only [bind_ok, e_dat1]
  have c4 := lcD_im (s := rg1D (cD (.int 40))) (vs := [5]) (k := .nm 5) (e := cbD strF (consA (varD 5) nilA)) (ρ := [.im (.str r), .im (.int i), .ow 0 (TS (ws r)), .no, .no, .no]) (List.range 40) (fun (k : Nat) => PyData.int k) (fun k => .str (tI k)) (by
      have rg40 : (rangeL 0 40).map PyData.int = (List.range 40).map fun (i : Nat) => PyData.int (i : Int) := rg_all 40
      simp [rg40]) (by simp) (fun k hk => ⟨_, rfl, by
      have := strF_ok (i := (k : Int)) (by simp at hk; omega)
      simp [this]⟩)
  have e4 : (@List.map Nat PD (fun k => PyData.str (tI (k : Int))) (List.range 40)) = TS nums := by simp [TS, nums]
  rw [e4] at c4
  obtain ⟨tl, etl⟩ : ∃ tl : List Str, tl = (ws r).drop 1 := ⟨_, rfl⟩
  have tlok : ∀ w ∈ tl, PyData.strOk w = true := fun w hw => wok w (by rw [etl] at hw; exact List.mem_of_mem_drop hw)
  have tll : tl.length ≤ 1001 := by rw [etl, List.length_drop]; omega
  have sl : ∀ x, slD (varD 2) (soO (cD (.int 1))) noO [.im (.str r), .im (.int i), .ow 0 (TS (ws r)), .ow 0 (TS nums), x, .no] = .ok (.fr 0 (TS tl)) := fun x => by
    have e1 : @cutL PD (TS (ws r)) (some 1) none = TS tl := by rw [cut_1, etl]; simp [TS]
    simp [slD]
    exact congrArg (R.fr 0) e1
  have c5 : ∀ x, lcD (itJ (slD (varD 2) (soO (cD (.int 1))) noO)) [4] (.nm 4) yesT (indexD (varD 3) (varD 4)) [.im (.str r), .im (.int i), .ow 0 (TS (ws r)), .ow 0 (TS nums), x, .no] = .ok (.fr 0 (@List.map Str PD (fun w => .int (numV w)) tl)) ∨ ¬ ∀ w ∈ tl, w ∈ nums := fun x => by
    by_cases h : ∀ w ∈ tl, w ∈ nums
    · refine .inl (lcD_im tl PyData.str (fun w => .int (numV w)) (itJ_fr (sl x)) (by omega) fun w hw => ⟨_, rfl, ?_⟩)
      have := index_nums (h w hw)
      simp [indexD, this]
    · exact .inr h
  unfold f_things_of_row
  rw [den_eq]
  show fin (seqD (asgD 2 _) (seqD (ifD _ _ _) (seqD (asgD 3 _) (seqD (forD _ _ _) (retD _)))) [.im (.str r), .im (.int i), .no, .no, .no, .no]) = _
  rw [seq_of (ρ' := [.im (.str r), .im (.int i), .ow 0 (TS (ws r)), .no, .no, .no]) (by unfold asgD; rw [u1]; rfl)]
  by_cases h0 : w0 = tI (i : Int) ++ sCol
  · have hh : (ws r).head? = some (tI (i : Int) ++ sCol) := by rw [ew, h0]; rfl
    rw [seq_iff (by rw [tt]; simp [h0]), seq_nx, seq_of (ρ' := [.im (.str r), .im (.int i), .ow 0 (TS (ws r)), .ow 0 (TS nums), .no, .no]) (by unfold asgD; rw [c4]; rfl)]
    refine (fin_anyX (b := .nm 4) (fun ρ => ∃ x, ρ = [.im (.str r), .im (.int i), .ow 0 (TS (ws r)), .ow 0 (TS nums), x, .no]) tl PyData.str (fun w ρ => ρ.set 4 (.im (.str w))) (fun w => !decide (w ∈ nums)) "BadNote"
      (o := .ok (.fr 0 (T1 (rowV r)))) (fun x ρ => rfl) (itD_fr (sl _)) ⟨_, rfl⟩ ?_ ?_).trans ?_
    · rintro w hw ρ ⟨x, rfl⟩
      have n1 := niF_strs nums_ok (tlok w hw)
      constructor
      · intro h
        have h : w ∈ nums := by simpa using h
        simp [n1, h]
        exact stp_nx ⟨_, rfl⟩
      · intro h
        have h : w ∉ nums := by simpa using h
        simp [n1, h]
    · rintro hall ρ ⟨x, rfl⟩
      have hin : ∀ w ∈ tl, w ∈ nums := fun w hw => by
        have := List.any_eq_false.mp hall w hw
        simpa using this
      rcases c5 x with c5 | c5
      · unfold retD
        rw [c5]
        have : (@List.map Str PD (fun w => PyData.int (numV w)) tl) = T1 (rowV r) := by rw [etl]; simp [rowV, T1]
        rw [this]
        rfl
      · exact absurd hin c5
    · have e5 : rowB i r = !tl.any fun w => !decide (w ∈ nums) := by
        unfold rowB
        rw [hh, ← etl]
        simp only [decide_true, Bool.true_and]
        rw [List.all_eq_not_any_not]
      rw [e5]
      cases tl.any fun w => !decide (w ∈ nums) <;> rfl
  · have hh : rowB i r = false := by
      unfold rowB
      rw [ew]
      simp [h0]
    rw [seq_ift (by rw [tt]; simp [h0]), hh]
    rfl
/-! #### maths: read14 -/
theorem np_any {shares : List (List Int)} (hl : shares.length ≤ 1000) (hn : ∀ s ∈ shares, ∀ v ∈ s, 0 ≤ v ∧ v < 40) (ht : shares.flatten.length ≤ 4000) : f_need_parted [LL shares, .int 40] = if (!shares.any fun s => !decide (sortI s = s)) && decide shares.flatten.Nodup then .ok (.im .none) else .ex "BadShares" := by
  have sl : ∀ s ∈ shares, s.length ≤ 4000 := fun s hs => by
    have : s.length ≤ (shares.map List.length).sum := mem_le_sum List.length shares s hs
    rw [List.length_flatten] at ht
    omega
  unfold f_need_parted
  rw [den_eq]
  unfold d_need_parted
  refine (fin_anyX (b := .nm 2) (fun ρ => ∃ x, ρ = [.im (LL shares), .im (.int 40), x, .no, .no]) shares (fun r => L1 r) (fun r ρ => ρ.set 2 (.im (L1 r))) (fun s => !decide (sortI s = s)) "BadShares"
    (o := if decide shares.flatten.Nodup then .ok (.im .none) else .ex "BadShares") (fun x ρ => rfl) (by simp) ⟨_, rfl⟩ ?_ ?_).trans ?_
  · rintro r hr ρ ⟨x, rfl⟩
    have b1 := sl r hr
    have b2 := inL_of (hn r hr)
    have b3 : r.length ≤ 100000 := by omega
    constructor
    · intro h
      have h : sortI r = r := by simpa using h
      simp [is_list_below_eq, b2, b3, sortD, h, neF_L1]
      exact stp_nx ⟨_, rfl⟩
    · intro h
      have h : ¬ sortI r = r := by simpa using h
      have h2 : ¬ r = sortI r := fun e => h e.symm
      have := neF_L1 r (sortI r)
      simp only [L1, h2, decide_false, Bool.not_false] at this
      simp [is_list_below_eq, b2, b3, sortD, this]
  · rintro hall ρ ⟨x, rfl⟩
    have c1 := lc2D_im (s := itJ (varD 0)) (s2 := itD (varD 2)) (vs := [2, 4]) (vs1 := [4]) (k1 := .nm 2) (k2 := .nm 4) (e := varD 4) (ρ := [.im (LL shares), .im (.int 40), x, .no, .no]) shares (fun r => L1 r) (fun r => r) (fun _ => PyData.int) (fun _ => PyData.int) (by simp) (by
      have : (shares.flatMap fun x => x.map PyData.int).length = shares.flatten.length := by
        rw [List.length_flatMap, List.length_flatten]
        simp
      omega) (fun r hr => ⟨_, rfl, by simp, fun y hy => ⟨_, rfl, by simp⟩⟩)
    have c2 : (@List.flatMap (List Int) PD (fun x => x.map PyData.int) shares) = shares.flatten.map PyData.int := by
      rw [List.map_flatten]; rfl
    rw [c2] at c1
    generalize shares.flatten = ns at c1 ht
    have c4 : ns.length ≤ 100000 := by omega
    by_cases hd : ns.Nodup
    · simp [c1, ht, ddL_nodup _ hd, hd, neF_int]
    · have := ddL_len hd
      have h2 : ¬ ((ddL ns).length : Int) = ns.length := by omega
      simp [c1, ht, hd, neF_int, h2]
  · cases shares.any (fun s => !decide (sortI s = s)) <;> simp
theorem lcFX_any {s : LD} {n : Nat} {vs : List Nat} {k : Tg} {e : ED} {ρ : Z.Env} {α : Type} (xs : List α) (c : α → PD) (g : α → Z.Ty (n + 1)) (p : α → Bool) (x : String) (hs : s ρ = .ok (xs.map c)) (hl : xs.length ≤ 100000)
    (h : ∀ a ∈ xs, ∃ ρ1, bindT k (c a) (wipeE ρ vs) = some ρ1 ∧ e ρ1 = if p a then .ok (.fr n (g a)) else .ex x) : lcFXD n s vs k yesT e ρ = if xs.all p then .ok (.fr (n + 1) (xs.map g)) else .ex x := by
  unfold lcFXD
  rw [hs]
  have key : ∀ xs : List α, (∀ a ∈ xs, ∃ ρ1, bindT k (c a) (wipeE ρ vs) = some ρ1 ∧ e ρ1 = if p a then .ok (.fr n (g a)) else .ex x) → lcLFX n k yesT e (wipeE ρ vs) (xs.map c) = if xs.all p then .ok (xs.map g) else .ex x := by
    intro xs
    induction xs with
    | nil => intro _; rfl
    | cons a xs ih =>
      intro h
      obtain ⟨ρ1, e1, e2⟩ := h a List.mem_cons_self
      have ih' := ih fun y hy => h y (List.mem_cons_of_mem _ hy)
      rw [List.map_cons, List.all_cons]
      unfold lcLFX
      rw [e1]
      simp only [yesT, noX_ok, bind_ok, if_true, e2]
      cases p a with
      | false => rfl
      | true =>
        simp only [if_true, bind_ok, Bool.true_and]
        rw [ih']
        have ea : (R.fr n (g a)).asFr n = some (g a) := by simp [R.asFr]
        rw [ea]
        cases xs.all p <;> rfl
  have hl2 : (xs.map c).length ≤ 100000 := by rw [List.length_map]; exact hl
  rw [bind_ok, if_pos hl2, key xs h]
  cases xs.all p <;> rfl
def rows (t : Str) : List Str := Txt.split t sNl
def heldT (t : Str) : List (List Int) := (rows t).map rowV
def rowsB (t : Str) : Bool := (List.range (rows t).length).all fun i => rowB i ((rows t).getD i Str.empty)
def shB (h : List (List Int)) : Bool := (!h.any fun s => !decide (sortI s = s)) && decide h.flatten.Nodup
def readB (t : Str) : Bool := decide ((rows t).length ≤ 8) && (rowsB t && shB (heldT t))
theorem enumP_TS (rs : List Str) : enumP (TS rs) = (List.range rs.length).map fun (i : Nat) => PyData.tuple [.int (i : Nat), .str (rs.getD i Str.empty)] := by
  apply List.ext_getElem
  · simp [enumP, TS]
  · intro i h1 h2
    have hi : i < rs.length := by simpa using h2
    simp [enumP, TS, List.getD_eq_getElem?_getD, hi]
theorem rowV_num {i : Nat} {r : Str} (h : rowB i r = true) : ∀ v ∈ rowV r, 0 ≤ v ∧ v < 40 := fun v hv => by
  unfold rowB at h
  unfold rowV at hv
  simp only [Bool.and_eq_true, List.all_eq_true] at h
  obtain ⟨w, hw, rfl⟩ := List.mem_map.mp hv
  obtain ⟨u, hu, rfl⟩ := (mem_nums w).mp (of_decide_eq_true (h.2 w hw))
  rw [numV_tI hu]
  exact hu
theorem heldT_get (t : Str) (i : Nat) (h : i < (rows t).length) : (heldT t)[i]? = some (rowV ((rows t).getD i Str.empty)) := by
  unfold heldT
  rw [List.getElem?_map, List.getD_eq_getElem?_getD, List.getElem?_eq_getElem h]
  rfl
theorem held_num {t : Str} (h : rowsB t = true) : ∀ s ∈ heldT t, ∀ v ∈ s, 0 ≤ v ∧ v < 40 := fun s hs => by
  obtain ⟨i, hi⟩ := List.mem_iff_getElem?.mp hs
  have hl : i < (rows t).length := by
    have := (List.getElem?_eq_some_iff.mp hi).1
    simpa [heldT] using this
  rw [heldT_get t i hl] at hi
  cases hi
  unfold rowsB at h
  exact rowV_num (List.all_eq_true.mp h i (by simpa using hl))
theorem rowV_len (r : Str) : (rowV r).length ≤ r.length := by
  unfold rowV ws
  rw [List.length_map, List.length_drop]
  have := split_len r oSp
  omega
theorem heldT_flat (t : Str) : (heldT t).flatten.length ≤ t.length := by
  rw [List.length_flatten]
  have h1 := split_sum t oNl
  have h2 : ((heldT t).map List.length).sum ≤ ((rows t).map (·.length)).sum := by
    unfold heldT
    generalize rows t = l
    induction l with
    | nil => simp
    | cons a l ih =>
      have := rowV_len a
      simp only [List.map_cons, List.sum_cons] at ih ⊢
      omega
  have h3 : 0 < (rows t).length := List.length_pos_iff.mpr (split_ne t oNl)
  have h4 : rows t = Txt.split t sNl := rfl
  rw [h4] at h2 h3
  omega
theorem read_eq {t : Str} (hok : PyData.strOk t = true) (hl : t.length ≤ 1000) : f_read [.str t] = if readB t then .ok (.fr 1 (T2 (heldT t))) else .ex "BadNote" := by
  have rl : (rows t).length ≤ 1001 := Nat.le_trans (split_len t oNl) (by omega)
  have rok : ∀ r ∈ rows t, PyData.strOk r = true := split_ok oNl hok
  have rpl : ∀ r ∈ rows t, r.length ≤ 1000 := fun r hr => Nat.le_trans (split_plen t oNl hr) hl
  have u1 : splitD (varD 0) (cD (.str (Str.ofString "\n"))) [.im (.str t), .no, .no, .no, .no, .no] = .ok (.fr 0 (TS (rows t))) :=
    splitD_ok (ra := .im (.str t)) rfl rfl rfl rfl (by rw [lNl]; decide) (by omega)
  have t1 : tstD (tyD not "str" (varD 0)) [.im (.str t), .no, .no, .no, .no, .no] = .ok false := by simp [tyP]
  have t2 : tstD (binR gtI (cbD lenF (consA (varD 1) nilA)) (cD (.int 8))) [.im (.str t), .ow 0 (TS (rows t)), .no, .no, .no, .no] = .ok (decide (8 < (rows t).length)) := by
    have e : (TS (rows t)).length = (rows t).length := TS_len _
    by_cases c : 8 < (rows t).length
    · have c2 : (8 : Int) < ((rows t).length : Nat) := by omega
      simp [e, c2, c]
    · have c2 : ¬ (8 : Int) < ((rows t).length : Nat) := by omega
      simp [e, c2, c]
  have gi : ∀ i, i < (rows t).length → (rows t).getD i Str.empty ∈ rows t := fun i hi => by
    rw [List.getD_eq_getElem?_getD, List.getElem?_eq_getElem hi]
    exact List.getElem_mem hi
  have c3 := lcFX_any (n := 0) (s := enD (varD 1)) (vs := [4, 5]) (k := .tp [4, 5]) (e := callD f_things_of_row (consA (varD 5) (consA (varD 4) nilA))) (ρ := [.im (.str t), .im (.list (TS (rows t))), .no, .no, .no, .no]) (List.range (rows t).length) (fun (i : Nat) => PyData.tuple [.int (i : Nat), .str ((rows t).getD i Str.empty)]) (fun i => T1 (rowV ((rows t).getD i Str.empty))) (fun i => rowB i ((rows t).getD i Str.empty)) "BadNote"
    (by rw [← enumP_TS]; simp) (by simp; omega) (fun i hi => ⟨[.im (.str t), .im (.list (TS (rows t))), .no, .no, .im (.int i), .im (.str ((rows t).getD i Str.empty))], rfl, by
      have hi' : i < (rows t).length := by simpa using hi
      have := row_eq (i := i) (r := (rows t).getD i Str.empty) (by omega) (rok _ (gi i hi')) (rpl _ (gi i hi'))
      generalize (rows t).getD i Str.empty = r at this
      cases hb : rowB i r with
      | true => rw [hb, if_pos rfl] at this; simp [this]
      | false => rw [hb] at this; simp [this]⟩)
  have e3 : (@List.map Nat (Z.Ty 1) (fun i => T1 (rowV ((rows t).getD i Str.empty))) (List.range (rows t).length)) = T2 (heldT t) := by
    show (@List.map Nat (List PD) (fun i => (rowV ((rows t).getD i Str.empty)).map PyData.int) (List.range (rows t).length)) = (heldT t).map fun r => r.map PyData.int
    apply List.ext_getElem
    · simp [heldT]
    · intro i h1 h2
      have hi : i < (rows t).length := by simpa using h1
      simp [heldT, List.getD_eq_getElem?_getD, hi]
  rw [e3] at c3
  unfold f_read
  rw [den_eq]
  show fin (seqD (ifD _ _ _) (seqD (asgD 1 _) (seqD (ifD _ _ _) (seqD (frzD 1) (seqD (asgD 2 _) (seqD (tryR _ _ _ _) (retVD 2)))))) [.im (.str t), .no, .no, .no, .no, .no]) = _
  rw [seq_iff t1, seq_nx, seq_of (ρ' := [.im (.str t), .ow 0 (TS (rows t)), .no, .no, .no, .no]) (by unfold asgD; rw [u1]; rfl)]
  unfold readB
  by_cases c8 : 8 < (rows t).length
  · rw [seq_ift (by rw [t2]; simp [c8])]
    have c8' : ¬ (rows t).length ≤ 8 := by omega
    simp [c8']
  · rw [seq_iff (by rw [t2]; simp [c8]), seq_nx, seq_of (ρ' := [.im (.str t), .im (.list (TS (rows t))), .no, .no, .no, .no]) (by unfold frzD; simp)]
    have c8' : (rows t).length ≤ 8 := by omega
    have er : rowsB t = (List.range (rows t).length).all fun i => rowB i ((rows t).getD i Str.empty) := rfl
    rw [← er] at c3
    cases hb : rowsB t with
    | false =>
      rw [hb] at c3
      have : asgD 2 (lcFXD 0 (enD (varD 1)) [4, 5] (.tp [4, 5]) yesT (callD f_things_of_row (consA (varD 5) (consA (varD 4) nilA)))) [.im (.str t), .im (.list (TS (rows t))), .no, .no, .no, .no] = .ex "BadNote" := by
        unfold asgD
        rw [c3]
        rfl
      unfold seqD
      rw [this]
      simp
    | true =>
      rw [hb, if_pos rfl] at c3
      rw [seq_of (ρ' := [.im (.str t), .im (.list (TS (rows t))), .ow 1 (T2 (heldT t)), .no, .no, .no]) (by unfold asgD; rw [c3]; rfl)]
      have np := np_any (shares := heldT t) (by simp [heldT]; omega) (held_num hb) (by have := heldT_flat t; omega)
      have en : noX (consA (varD 2) (consA (cD (.int 40)) nilA) [.im (.str t), .im (.list (TS (rows t))), .ow 1 (T2 (heldT t)), .no, .no, .no]) = .ok [.ro 1 (T2 (heldT t)), .im (.int 40)] := by
        simp [noX]
      have ed : ([.ro 1 (T2 (heldT t)), .im (.int 40)] : List R).map R.dat = [LL (heldT t), .int 40] := by
        simp
      have et : tryR f_need_parted (consA (varD 2) (consA (cD (.int 40)) nilA)) "BadShares" "BadNote" [.im (.str t), .im (.list (TS (rows t))), .ow 1 (T2 (heldT t)), .no, .no, .no] = if shB (heldT t) then .nx [.im (.str t), .im (.list (TS (rows t))), .ow 1 (T2 (heldT t)), .no, .no, .no] else .ex "BadNote" := by
        unfold tryR
        rw [en]
        simp only
        rw [ed, np]
        unfold shB
        cases ((!(heldT t).any fun s => !decide (sortI s = s)) && decide (heldT t).flatten.Nodup) <;> rfl
      cases hs : shB (heldT t) with
      | false =>
        rw [hs] at et
        unfold seqD
        rw [et]
        simp
      | true =>
        rw [hs, if_pos rfl] at et
        rw [seq_of et]
        simp [c8']
/-! #### maths: calls -/
theorem call2 {f : List PD → Out R} {a b : ED} {ρ : Z.Env} {r1 r2 r : R} {d1 d2 : PD} (h1 : a ρ = .ok r1) (h2 : b ρ = .ok r2) (q1 : r1.dat = d1) (q2 : r2.dat = d2) (hf : f [d1, d2] = .ok r) (hfl : r.flat = true) : callD f (consA a (consA b nilA)) ρ = .ok r := by
  unfold callD
  simp only [consA, nilA, h1, bind_ok, h2, List.map_cons, List.map_nil, R.fz_dat, q1, q2, hf]
  simp only [hfl, if_true, ite_self]
theorem call3 {f : List PD → Out R} {a b c : ED} {ρ : Z.Env} {r1 r2 r3 r : R} {d1 d2 d3 : PD} (h1 : a ρ = .ok r1) (h2 : b ρ = .ok r2) (h3 : c ρ = .ok r3) (q1 : r1.dat = d1) (q2 : r2.dat = d2) (q3 : r3.dat = d3) (hf : f [d1, d2, d3] = .ok r) (hfl : r.flat = true) : callD f (consA a (consA b (consA c nilA))) ρ = .ok r := by
  unfold callD
  simp only [consA, nilA, h1, bind_ok, h2, h3, List.map_cons, List.map_nil, R.fz_dat, q1, q2, q3, hf]
  simp only [hfl, if_true, ite_self]
theorem cmp_ok {f : PD → PD → Option PD} {a b : ED} {ρ : Z.Env} {r1 r2 : R} {d1 d2 d : PD} (h1 : a ρ = .ok r1) (h2 : b ρ = .ok r2) (q1 : r1.dat = d1) (q2 : r2.dat = d2) (hf : f d1 d2 = some d) : binR f a b ρ = .ok (.im d) := by
  unfold binR
  rw [h1, bind_ok, h2, bind_ok, q1, q2, hf]
theorem len_ok {a : ED} {ρ : Z.Env} {r : R} {ds : List PD} (h : a ρ = .ok r) (q : r.dat = .list ds) : cbD lenF (consA a nilA) ρ = .ok (.im (.int (ds.length : Nat))) := by
  unfold cbD
  simp only [consA, nilA, h, bind_ok, List.map_cons, List.map_nil, R.fz_dat, q, e_len1]
theorem ix_ok {a b : ED} {ρ : Z.Env} {r1 r : R} {k : Int} (h1 : a ρ = .ok r1) (h2 : b ρ = .ok (.im (.int k))) (h : ixF r1.fz k = some r) : ixD a b ρ = .ok r := by
  unfold ixD
  rw [h1, bind_ok, h2, bind_ok]
  simp only [e_dat1, h]
/-! #### maths: tst14 -/
theorem tst_ok {e : ED} {ρ : Z.Env} {b : Bool} (h : e ρ = .ok (.im (.bool b))) : tstD e ρ = .ok b := by
  unfold tstD
  rw [h]
  rfl
theorem asg_im {i : Nat} {e : ED} {ρ : Z.Env} {d : PD} (h : e ρ = .ok (.im d)) : asgD i e ρ = .nx (ρ.set i (.im d)) := by
  unfold asgD
  rw [h]
  rfl
theorem asg_fr {i n : Nat} {e : ED} {ρ : Z.Env} {t : Z.Ty (n + 1)} (h : e ρ = .ok (.fr n t)) : asgD i e ρ = .nx (ρ.set i (.ow n t)) := by
  unfold asgD
  rw [h]
  rfl
theorem ret_im {e : ED} {ρ : Z.Env} {d : PD} (h : e ρ = .ok (.im d)) : retD e ρ = .rt (.im d) := by
  unfold retD
  rw [h]
  rfl
/-! #### maths: due14 -/
theorem for_acc {α : Type} {b : Tg} {c : α → PD} {body : SD} (S : List α → Z.Env → Prop) (p : α → Bool) (r : R)
    (step : ∀ done x ρ, S done ρ → ∃ ρ1, bindT b (c x) ρ = some ρ1 ∧ (p x = true → ∃ ρ2, body ρ1 = .nx ρ2 ∧ S (done ++ [x]) ρ2) ∧ (p x = false → body ρ1 = .rt r)) :
    ∀ (xs done : List α) (ρ : Z.Env), S done ρ → (xs.all p = true → ∃ ρ', forL b body (xs.map c) ρ = .nx ρ' ∧ S (done ++ xs) ρ') ∧ (xs.all p = false → forL b body (xs.map c) ρ = .rt r)
  | [], done, ρ, h => ⟨fun _ => ⟨ρ, rfl, by rw [List.append_nil]; exact h⟩, fun e => by simp at e⟩
  | x :: xs, done, ρ, h => by
    obtain ⟨ρ1, e1, h1, h2⟩ := step done x ρ h
    rw [List.map_cons, List.all_cons]
    unfold forL
    rw [e1]
    simp only
    cases hp : p x with
    | false =>
      rw [h2 hp]
      exact ⟨fun e => by simp at e, fun _ => rfl⟩
    | true =>
      obtain ⟨ρ2, e2, h3⟩ := h1 hp
      rw [e2]
      simp only [Bool.true_and]
      have ih := for_acc S p r step xs (done ++ [x]) ρ2 h3
      rw [List.append_assoc] at ih
      exact ih
theorem for_acc_mem {α : Type} {b : Tg} {c : α → PD} {body : SD} {s : LD} (S : List α → Z.Env → Prop) (p : α → Bool) (r : R) (xs : List α) (ρ : Z.Env) (hs : s ρ = .ok (xs.map c)) (h0 : S [] ρ)
    (step : ∀ done x ρ, x ∈ xs → done ++ [x] <+: xs → S done ρ → ∃ ρ1, bindT b (c x) ρ = some ρ1 ∧ (p x = true → ∃ ρ2, body ρ1 = .nx ρ2 ∧ S (done ++ [x]) ρ2) ∧ (p x = false → body ρ1 = .rt r)) :
    (xs.all p = true → ∃ ρ', forD s b body ρ = .nx ρ' ∧ S xs ρ') ∧ (xs.all p = false → forD s b body ρ = .rt r) := by
  have key : ∀ (ys done : List α) (ρ : Z.Env), done ++ ys = xs → S done ρ → (ys.all p = true → ∃ ρ', forL b body (ys.map c) ρ = .nx ρ' ∧ S (done ++ ys) ρ') ∧ (ys.all p = false → forL b body (ys.map c) ρ = .rt r) := by
    intro ys
    induction ys with
    | nil => exact fun done ρ _ h => ⟨fun _ => ⟨ρ, rfl, by rw [List.append_nil]; exact h⟩, fun e => by simp at e⟩
    | cons x ys ih =>
      intro done ρ hx h
      obtain ⟨ρ1, e1, h1, h2⟩ := step done x ρ (by rw [← hx]; simp) ⟨ys, by rw [← hx]; simp⟩ h
      rw [List.map_cons, List.all_cons]
      unfold forL
      rw [e1]
      simp only
      cases hp : p x with
      | false =>
        rw [h2 hp]
        exact ⟨fun e => by simp at e, fun _ => rfl⟩
      | true =>
        obtain ⟨ρ2, e2, h3⟩ := h1 hp
        rw [e2]
        simp only [Bool.true_and]
        have ih := ih (done ++ [x]) ρ2 (by rw [← hx]; simp) h3
        rw [List.append_assoc] at ih
        exact ih
  unfold forD
  rw [hs]
  exact key xs [] ρ rfl h0
theorem shp_sign {c : Nat} (h : c < 0x110000) : PyData.strOk ⟨#[c]⟩ = true := by
  rw [ok_iff]
  intro d hd
  have : d = c := by simpa [TL.tl] using hd
  omega
theorem eqvAll_nil : ∀ l : List PD, PyData.eqvAll l [] = decide (l = [])
  | [] => by simp [PyData.eqvAll]
  | _ :: _ => by simp [PyData.eqvAll]
theorem neF_nil {l : List PD} (h : shp (.list l) = true) : neF (.list l) (.list []) = some (.bool (!decide (l = []))) := by
  have h2 : shp (.list []) = true := by decide +kernel
  simp [neF, h, h2, PyData.eqv, eqvAll_nil]
def rowok (r : Str) : Bool := ((ws r).drop 1).all wOk
def TW (x : PD) : TD := orT (tstD (binR eqF (varD 5) (cD (.str (Str.ofString ""))))) (orT (tstD (binR gtI (cbD lenF (consA (varD 5) nilA)) (cD (.int 2)))) (tstD (binR neF (lcD (itS (varD 5)) [7] (.nm 7) (tstD (binR niS (varD 7) (cD (.str (Str.ofString "0123456789"))))) (varD 7)) (lstD nilA))))
theorem word_test {a b c d e f : Ent} {w : Str} (hok : PyData.strOk w = true) (hl : w.length ≤ 1000) : (orT (tstD (binR eqF (varD 5) (cD (.str (Str.ofString ""))))) (orT (tstD (binR gtI (cbD lenF (consA (varD 5) nilA)) (cD (.int 2)))) (tstD (binR neF (lcD (itS (varD 5)) [7] (.nm 7) (tstD (binR niS (varD 7) (cD (.str (Str.ofString "0123456789"))))) (varD 7)) (lstD nilA))))) [a, b, c, d, e, .im (.str w), f, .no] = .ok (!wOk w) := by
  have z1 : (w = Str.ofString "") ↔ w.length = 0 := by
    rw [TL.len_tl]
    constructor
    · intro h; rw [h]; decide +kernel
    · intro h; exact TL.ext_tl (by rw [List.eq_nil_of_length_eq_zero h]; decide +kernel)
  have t1 : tstD (binR eqF (varD 5) (cD (.str (Str.ofString "")))) [a, b, c, d, e, .im (.str w), f, .no] = .ok (decide (w.length = 0)) := by
    have := eqF_str hok (ok_of "")
    simp [this, z1]
  have t2 : tstD (binR gtI (cbD lenF (consA (varD 5) nilA)) (cD (.int 2))) [a, b, c, d, e, .im (.str w), f, .no] = .ok (decide (2 < w.length)) := by
    have e1 : lenF [.str w] = some (.int (w.length : Nat)) := by
      show (if w.length ≤ 100000 then _ else _) = _
      rw [if_pos (by omega)]
    by_cases k : 2 < w.length
    · have k2 : (2 : Int) < (w.length : Nat) := by omega
      simp [e1, k, k2]
    · have k2 : ¬ (2 : Int) < (w.length : Nat) := by omega
      simp [e1, k, k2]
  have c3 := lcD_filt (s := itS (varD 5)) (vs := [7]) (k := .nm 7) (t := tstD (binR niS (varD 7) (cD (.str (Str.ofString "0123456789"))))) (e := varD 7) (ρ := [a, b, c, d, e, .im (.str w), f, .no]) (TL.tl w) (fun x => PyData.str ⟨#[x]⟩) (fun x => PyData.str ⟨#[x]⟩) (fun x => !decide (x ∈ TL.tl sDig)) (by simp [itS]; rfl) (by rw [← TL.len_tl]; omega) (fun x hx => ⟨_, rfl, by simp [niS]; rfl, fun _ => by simp⟩)
  have e4 : (@List.map Nat PD (fun x => PyData.str ⟨#[x]⟩) ((TL.tl w).filter fun x => !decide (x ∈ TL.tl sDig))) = TS (((TL.tl w).filter fun x => !decide (x ∈ TL.tl sDig)).map fun x => ⟨#[x]⟩) := by simp [TS]
  rw [e4] at c3
  have t3 : tstD (binR neF (lcD (itS (varD 5)) [7] (.nm 7) (tstD (binR niS (varD 7) (cD (.str (Str.ofString "0123456789"))))) (varD 7)) (lstD nilA)) [a, b, c, d, e, .im (.str w), f, .no] = .ok (!(TL.tl w).all fun x => decide (x ∈ TL.tl sDig)) := by
    have s1 := shp_TS (((TL.tl w).filter fun x => !decide (x ∈ TL.tl sDig)).map fun x => (⟨#[x]⟩ : Str)) (fun x hx => by
      obtain ⟨y, hy, rfl⟩ := List.mem_map.mp hx
      exact shp_sign ((ok_iff w).mp hok y (List.mem_filter.mp hy).1))
    have n1 := neF_nil s1
    have l0 : lstD nilA [a, b, c, d, e, .im (.str w), f, .no] = .ok (.fr 0 []) := by simp; rfl
    refine tst_ok (cmp_ok c3 l0 (e_datf0 _) (e_datf0 _) (n1.trans ?_))
    generalize TL.tl w = l
    generalize TL.tl sDig = dg
    congr 2
    rw [Bool.eq_iff_iff]
    simp [TS]
  unfold orT
  rw [t1, bind_ok]
  unfold wOk
  by_cases k0 : w.length = 0
  · simp [k0]
  · simp only [k0, decide_false, Bool.false_eq_true, if_false]
    rw [t2, bind_ok]
    by_cases k2 : 2 < w.length
    · have k3 : ¬ w.length ≤ 2 := by omega
      simp [k2, k3]
    · have k3 : w.length ≤ 2 := by omega
      simp only [k2, decide_false, Bool.false_eq_true, if_false]
      rw [t3]
      simp [k3]
/-! #### maths: due14b -/
def BW : SD := (seqD (ifD (orT (tstD (binR eqF (varD 5) (cD (.str (Str.ofString ""))))) (orT (tstD (binR gtI (cbD lenF (consA (varD 5) nilA)) (cD (.int 2)))) (tstD (binR neF (lcD (itS (varD 5)) [7] (.nm 7) (tstD (binR niS (varD 7) (cD (.str (Str.ofString "0123456789"))))) (varD 7)) (lstD nilA))))) (retD (cD .none)) (fun ρ => .nx ρ))
      (appD 4 (ownQ 4) (cbD intSF (consA (varD 5) nilA))))
def IW : LD := itD (slD (splitD (varD 3) (cD (.str (Str.ofString " ")))) (soO (cD (.int 1))) noO)
theorem app_top {i : Nat} {e : ED} {ρ : Z.Env} {l : List PD} {d : PD} (h1 : ρ[i]? = some (.ow 0 l)) (h2 : e ρ = .ok (.im d)) (hl : l.length ≤ 100000) : appD i (ownQ i) e ρ = .nx (ρ.set i (.ow 0 (l ++ [d]))) := by
  rw [Z.app_own, h1]
  simp [h2, hl]
theorem words_loop {t a1 a2 x5 x6 : Ent} {r : Str} (hok : PyData.strOk r = true) (hl : r.length ≤ 1000) :
    (rowok r = true → ∃ x, forD IW (.nm 5) BW [t, a1, a2, .im (.str r), .ow 0 [], x5, x6, .no] = .nx [t, a1, a2, .im (.str r), .ow 0 (T1 (rowV r)), x, x6, .no]) ∧ (rowok r = false → forD IW (.nm 5) BW [t, a1, a2, .im (.str r), .ow 0 [], x5, x6, .no] = .rt (.im .none)) := by
  have wl : (ws r).length ≤ 1001 := Nat.le_trans (split_len r oSp) (by omega)
  have wok : ∀ w ∈ ws r, PyData.strOk w = true := split_ok oSp hok
  have wpl : ∀ w ∈ ws r, w.length ≤ 1000 := fun w hw => Nat.le_trans (split_plen r oSp hw) hl
  obtain ⟨tl, etl⟩ : ∃ tl : List Str, tl = (ws r).drop 1 := ⟨_, rfl⟩
  have sub : ∀ w ∈ tl, w ∈ ws r := fun w hw => by rw [etl] at hw; exact List.mem_of_mem_drop hw
  have tll : tl.length ≤ 1001 := by rw [etl, List.length_drop]; omega
  have u1 : splitD (varD 3) (cD (.str (Str.ofString " "))) [t, a1, a2, .im (.str r), .ow 0 [], x5, x6, .no] = .ok (.fr 0 (TS (ws r))) :=
    splitD_ok (ra := .im (.str r)) rfl rfl rfl rfl (by rw [lSp]; decide) (by omega)
  have sl : slD (splitD (varD 3) (cD (.str (Str.ofString " ")))) (soO (cD (.int 1))) noO [t, a1, a2, .im (.str r), .ow 0 [], x5, x6, .no] = .ok (.fr 0 (TS tl)) := by
    have e1 : @cutL PD (TS (ws r)) (some 1) none = TS tl := by rw [cut_1, etl]; simp [TS]
    unfold slD
    rw [u1, bind_ok]
    simp only [un_soO, cD, noO, bind_ok, e_dat1, kidsS_fr0]
    exact congrArg (fun z : List PD => Out.ok (R.fr 0 z)) e1
  have key := for_acc_mem (b := .nm 5) (c := PyData.str) (body := BW) (s := IW) (fun done ρ => ∃ x, ρ = [t, a1, a2, .im (.str r), .ow 0 (T1 (done.map numV)), x, x6, .no]) wOk (.im .none) tl [t, a1, a2, .im (.str r), .ow 0 [], x5, x6, .no] (itD_fr sl) ⟨x5, rfl⟩ (by
    rintro done w ρ hw hpre ⟨x, rfl⟩
    have tst := word_test (a := t) (b := a1) (c := a2) (d := .im (.str r)) (e := .ow 0 (T1 (done.map numV))) (f := x6) (wok w (sub w hw)) (wpl w (sub w hw))
    refine ⟨[t, a1, a2, .im (.str r), .ow 0 (T1 (done.map numV)), .im (.str w), x6, .no], rfl, fun h => ?_, fun h => ?_⟩
    · obtain ⟨n, e1, _⟩ := wOk_val h
      have lw : w.length ≤ 640 := by
        simp only [wOk, Bool.and_eq_true, decide_eq_true_eq] at h
        omega
      have e2 : cbD intSF (consA (varD 5) nilA) [t, a1, a2, .im (.str r), .ow 0 (T1 (done.map numV)), .im (.str w), x6, .no] = .ok (.im (.int (numV w))) := by
        have : intSF [.str w] = some (.int (numV w)) := by
          show (if w.length ≤ 640 then (PySem.intText? w).map PyData.int else none) = _
          rw [if_pos lw, e1]
          simp [numV, e1]
        simp [this]
      have dl : done.length ≤ 1001 := by
        have := hpre.length_le
        rw [List.length_append] at this
        omega
      refine ⟨[t, a1, a2, .im (.str r), .ow 0 (T1 (done.map numV) ++ [PyData.int (numV w)]), .im (.str w), x6, .no], ?_, .im (.str w), by simp [T1]⟩
      show seqD (ifD _ _ _) (appD 4 _ _) _ = _
      rw [seq_iff (by rw [tst, h]; rfl), seq_nx, app_top (l := T1 (done.map numV)) rfl e2 (by simp [T1]; omega)]
      rfl
    · show seqD (ifD _ _ _) (appD 4 _ _) _ = _
      rw [seq_ift (by rw [tst, h]; rfl), seq_ret]
      rfl)
  unfold rowok rowV
  rw [← etl]
  exact ⟨fun h => by obtain ⟨ρ', e, x, rfl⟩ := key.1 h; exact ⟨x, e⟩, key.2⟩
def BR : SD := (seqD (asgD 4 (nilD 0)) (seqD (forD IW (.nm 5) BW) (seqD (asgD 2 (addD (varD 2) (varD 4))) (seqD (frzD 4) (appD 1 (ownQ 1) (varD 4))))))
def IR : LD := itD (splitD (varD 0) (cD (.str (Str.ofString "\n"))))
def LS (hs : List (List Int)) : List PD := hs.map fun r => L1 r
theorem rows_loop {T : Str} (hok : PyData.strOk T = true) (hl : T.length ≤ 1000) :
    ((rows T).all rowok = true → ∃ x y z, forD IR (.nm 3) BR [.im (.str T), .ow 0 [], .ow 0 [], .no, .no, .no, .no, .no] = .nx [.im (.str T), .ow 0 (LS (heldT T)), .ow 0 (T1 (heldT T).flatten), x, y, z, .no, .no]) ∧
    ((rows T).all rowok = false → forD IR (.nm 3) BR [.im (.str T), .ow 0 [], .ow 0 [], .no, .no, .no, .no, .no] = .rt (.im .none)) := by
  have rl : (rows T).length ≤ 1001 := Nat.le_trans (split_len T oNl) (by omega)
  have rok : ∀ r ∈ rows T, PyData.strOk r = true := split_ok oNl hok
  have rpl : ∀ r ∈ rows T, r.length ≤ 1000 := fun r hr => Nat.le_trans (split_plen T oNl hr) hl
  have hf := heldT_flat T
  have u1 : splitD (varD 0) (cD (.str (Str.ofString "\n"))) [.im (.str T), .ow 0 [], .ow 0 [], .no, .no, .no, .no, .no] = .ok (.fr 0 (TS (rows T))) :=
    splitD_ok (ra := .im (.str T)) rfl rfl rfl rfl (by rw [lNl]; decide) (by omega)
  have key := for_acc_mem (b := .nm 3) (c := PyData.str) (body := BR) (s := IR) (fun done ρ => ∃ x y z, ρ = [.im (.str T), .ow 0 (LS (done.map rowV)), .ow 0 (T1 (done.map rowV).flatten), x, y, z, .no, .no]) rowok (.im .none) (rows T) [.im (.str T), .ow 0 [], .ow 0 [], .no, .no, .no, .no, .no] (itD_fr u1) ⟨.no, .no, .no, rfl⟩ (by
    rintro done r ρ hr hpre ⟨x, y, z, rfl⟩
    have wl := words_loop (t := .im (.str T)) (a1 := .ow 0 (LS (done.map rowV))) (a2 := .ow 0 (T1 (done.map rowV).flatten)) (x5 := z) (x6 := .no) (rok r hr) (rpl r hr)
    have fl : ((done.map rowV).flatten ++ rowV r).length ≤ 1000 := by
      obtain ⟨q, hq⟩ := hpre
      have : ((done.map rowV).flatten ++ rowV r).length ≤ (heldT T).flatten.length := by
        unfold heldT
        rw [← hq]
        simp
      omega
    rw [List.length_append] at fl
    have dl : done.length ≤ 1001 := by
      have := hpre.length_le
      rw [List.length_append] at this
      omega
    have h4 : asgD 4 (nilD 0) [.im (.str T), .ow 0 (LS (done.map rowV)), .ow 0 (T1 (done.map rowV).flatten), .im (.str r), y, z, .no, .no] = .nx [.im (.str T), .ow 0 (LS (done.map rowV)), .ow 0 (T1 (done.map rowV).flatten), .im (.str r), .ow 0 [], z, .no, .no] := rfl
    refine ⟨[.im (.str T), .ow 0 (LS (done.map rowV)), .ow 0 (T1 (done.map rowV).flatten), .im (.str r), y, z, .no, .no], rfl, fun h => ?_, fun h => ?_⟩
    · obtain ⟨x2, e2⟩ := wl.1 h
      have ea : addD (varD 2) (varD 4) [.im (.str T), .ow 0 (LS (done.map rowV)), .ow 0 (T1 (done.map rowV).flatten), .im (.str r), .ow 0 (T1 (rowV r)), x2, .no, .no] = .ok (.fr 0 (T1 (done.map rowV).flatten ++ T1 (rowV r))) :=
        addD_ok (r1 := .ro 0 (T1 (done.map rowV).flatten)) (r2 := .ro 0 (T1 (rowV r))) rfl rfl (e_datr0 _) (e_datr0 _) rfl rfl (by simp only [T1, List.length_map]; omega)
      refine ⟨[.im (.str T), .ow 0 (LS (done.map rowV) ++ [L1 (rowV r)]), .ow 0 (T1 (done.map rowV).flatten ++ T1 (rowV r)), .im (.str r), .im (L1 (rowV r)), x2, .no, .no], ?_, .im (.str r), .im (L1 (rowV r)), x2, by simp [LS, T1]⟩
      show seqD (asgD 4 _) (seqD (forD IW (.nm 5) BW) (seqD (asgD 2 _) (seqD (frzD 4) (appD 1 _ _)))) _ = _
      rw [seq_of h4, seq_of e2, seq_of (ρ' := [.im (.str T), .ow 0 (LS (done.map rowV)), .ow 0 (T1 (done.map rowV).flatten ++ T1 (rowV r)), .im (.str r), .ow 0 (T1 (rowV r)), x2, .no, .no]) (asg_fr ea), seq_of (ρ' := [.im (.str T), .ow 0 (LS (done.map rowV)), .ow 0 (T1 (done.map rowV).flatten ++ T1 (rowV r)), .im (.str r), .im (L1 (rowV r)), x2, .no, .no]) (by unfold frzD; simp [T1]),
        app_top (l := LS (done.map rowV)) (d := L1 (rowV r)) rfl rfl (by simp [LS]; omega)]
      rfl
    · show seqD (asgD 4 _) (seqD (forD IW (.nm 5) BW) (seqD (asgD 2 _) (seqD (frzD 4) (appD 1 _ _)))) _ = _
      rw [seq_of h4, seq_rt_ (wl.2 h)])
  exact ⟨fun h => by obtain ⟨ρ', e, x, y, z, rfl⟩ := key.1 h; exact ⟨x, y, z, e⟩, key.2⟩
/-! #### maths: due14c -/
theorem rowok_num {r : Str} (h : rowok r = true) : ∀ v ∈ rowV r, 0 ≤ v ∧ v < 100 := fun v hv => by
  unfold rowok at h
  unfold rowV at hv
  obtain ⟨w, hw, rfl⟩ := List.mem_map.mp hv
  obtain ⟨n, e, h1, h2⟩ := wOk_val (List.all_eq_true.mp h w hw)
  simp only [numV, e, Option.getD_some]
  exact ⟨h1, h2⟩
theorem sum_ge {α : Type} (f : α → Nat) : ∀ (l : List α), (∀ x ∈ l, 1 ≤ f x) → l.length ≤ (l.map f).sum
  | [], _ => by simp
  | x :: l, h => by
    have h1 := h x List.mem_cons_self
    have h2 := sum_ge f l fun y hy => h y (List.mem_cons_of_mem _ hy)
    rw [List.map_cons, List.sum_cons, List.length_cons]
    omega
theorem rowok_len {r : Str} (h : rowok r = true) : 2 * (rowV r).length ≤ r.length := by
  unfold rowok at h
  have h1 := split_sum r oSp
  have e : ws r = Txt.split r sSp := rfl
  rw [← e] at h1
  unfold rowV
  rw [List.length_map]
  obtain ⟨w0, us, ew⟩ : ∃ w0 us, ws r = w0 :: us := by
    cases e : ws r with
    | nil => exact absurd e (split_ne r oSp)
    | cons a b => exact ⟨a, b, rfl⟩
  rw [ew] at h h1 ⊢
  simp only [List.drop_succ_cons, List.drop_zero, List.map_cons, List.sum_cons, List.length_cons] at h h1 ⊢
  have := sum_ge (fun q : Str => q.length) us fun w hw => by
    have := List.all_eq_true.mp h w hw
    simp only [wOk, Bool.and_eq_true, Bool.not_eq_true', decide_eq_false_iff_not] at this
    omega
  omega
theorem call_1 {f : List PD → Out R} {a : ED} {ρ : Z.Env} {r1 r : R} {d1 : PD} (h1 : a ρ = .ok r1) (q1 : r1.dat = d1) (hf : f [d1] = .ok r) (hfl : r.flat = true) : callD f (consA a nilA) ρ = .ok r := by
  unfold callD
  simp only [consA, nilA, h1, bind_ok, List.map_cons, List.map_nil, R.fz_dat, q1, hf]
  simp only [hfl, if_true, ite_self]
theorem or_ok {a b : TD} {ρ : Z.Env} {x y : Bool} (h1 : a ρ = .ok x) (h2 : x = false → b ρ = .ok y) : orT a b ρ = .ok (x || y) := by
  unfold orT
  rw [h1, bind_ok]
  cases x with
  | true => rfl
  | false => exact h2 rfl
def unsorted (h : List (List Int)) : Bool := h.any fun s => !decide (sortI s = s)
def dueB (T : Str) : Bool := (rows T).all rowok && (decide ((rows T).length ≤ 8) && (decide (textT (heldT T) = T) && (decide (heldT T).flatten.Nodup && (!unsorted (heldT T) && decide (maxL ((heldT T).flatten ++ [0]) ≤ 39)))))
theorem ddL_lt (ns : List Int) : decide ((ddL ns).length < ns.length) = !decide ns.Nodup := by
  by_cases h : ns.Nodup
  · simp [ddL_nodup _ h, h]
  · have h1 := ddL_len h
    have h2 := (ddL_gen ns []).1
    have h3 : ddL ns = ns.foldl PyProof.Rows.step_dedup [] := rfl
    rw [← h3, List.length_nil, Nat.zero_add] at h2
    have h4 : (ddL ns).length < ns.length := by omega
    simp [h4, h]
theorem due_eq {T : Str} (hok : PyData.strOk T = true) (hl : T.length ≤ 1000) : f__law_due [.str T] = .ok (if dueB T then .fr 0 (LS (heldT T)) else .im .none) := by
  have lp := rows_loop hok hl
  unfold f__law_due
  rw [den_eq]
  show fin (seqD (asgD 1 _) (seqD (asgD 2 _) (seqD (forD IR (.nm 3) BR) (seqD (ifD _ _ _) (seqD (ifD _ _ _) (retVD 1))))) [.im (.str T), .no, .no, .no, .no, .no, .no, .no]) = _
  have h1 : asgD 1 (nilD 0) [.im (.str T), .no, .no, .no, .no, .no, .no, .no] = .nx [.im (.str T), .ow 0 [], .no, .no, .no, .no, .no, .no] := rfl
  have h2 : asgD 2 (nilD 0) [.im (.str T), .ow 0 [], .no, .no, .no, .no, .no, .no] = .nx [.im (.str T), .ow 0 [], .ow 0 [], .no, .no, .no, .no, .no] := rfl
  rw [seq_of h1, seq_of h2]
  unfold dueB
  cases hr : (rows T).all rowok with
  | false =>
    rw [seq_rt_ (lp.2 hr)]
    rfl
  | true =>
    obtain ⟨x, y, z, e⟩ := lp.1 hr
    rw [seq_of e]
    simp only [Bool.true_and]
    have hrows : ∀ r ∈ rows T, rowok r = true := fun r h => List.all_eq_true.mp hr r h
    have hnum : ∀ s ∈ heldT T, ∀ v ∈ s, 0 ≤ v ∧ v < 100 := fun s hs => by
      obtain ⟨r, h, rfl⟩ := List.mem_map.mp hs
      exact rowok_num (hrows r h)
    have hlen : ∀ s ∈ heldT T, s.length ≤ 500 := fun s hs => by
      obtain ⟨r, h, rfl⟩ := List.mem_map.mp hs
      have := rowok_len (hrows r h)
      have := split_plen T oNl h
      omega
    have hhl : (heldT T).length = (rows T).length := by simp [heldT]
    have hfl := heldT_flat T
    obtain ⟨H, eH⟩ : ∃ H, heldT T = H := ⟨_, rfl⟩
    rw [eH] at hnum hlen hhl hfl ⊢
    rw [← hhl]
    have c1 : tstD (binR gtI (cbD lenF (consA (varD 1) nilA)) (cD (.int 8))) [.im (.str T), .ow 0 (LS H), .ow 0 (T1 H.flatten), x, y, z, .no, .no] = .ok (!decide (H.length ≤ 8)) := by
      refine tst_ok (cmp_ok (len_ok (ds := LS H) (r := .ro 0 (LS H)) rfl (e_datr0 _)) rfl rfl rfl ?_)
      have : (LS H).length = H.length := by simp [LS]
      rw [this]
      by_cases k : H.length ≤ 8
      · have k2 : ¬ (8 : Int) < (H.length : Nat) := by omega
        simp [k, k2]
      · have k2 : (8 : Int) < (H.length : Nat) := by omega
        simp [k, k2]
    have c2 : H.length ≤ 8 → tstD (binR neF (callD f__law_text (consA (varD 1) nilA)) (varD 0)) [.im (.str T), .ow 0 (LS H), .ow 0 (T1 H.flatten), x, y, z, .no, .no] = .ok (!decide (textT H = T)) := fun k => by
      have te := text_eq (rs := H) ⟨by omega, hlen, hnum⟩
      have cl : callD f__law_text (consA (varD 1) nilA) [.im (.str T), .ow 0 (LS H), .ow 0 (T1 H.flatten), x, y, z, .no, .no] = .ok (.im (.str (textT H))) := call_1 (r1 := .ro 0 (LS H)) rfl (e_datr0 _) te rfl
      exact tst_ok (cmp_ok cl (r2 := .im (.str T)) rfl rfl rfl (neF_str (ok_text H) hok))
    have c3 : tstD (binR ltI (lenSetD (varD 2)) (cbD lenF (consA (varD 2) nilA))) [.im (.str T), .ow 0 (LS H), .ow 0 (T1 H.flatten), x, y, z, .no, .no] = .ok (!decide H.flatten.Nodup) := by
      generalize H.flatten = ns at hfl
      have l1 : lenSetD (varD 2) [.im (.str T), .ow 0 (LS H), .ow 0 (T1 ns), x, y, z, .no, .no] = .ok (.im (.int ((ddL ns).length : Nat))) := by
        have : ns.length ≤ 4000 := by omega
        simp [this]
      refine tst_ok (cmp_ok l1 (len_ok (ds := T1 ns) (r := .ro 0 (T1 ns)) rfl (e_datr0 _)) rfl rfl ?_)
      rw [← ddL_lt]
      have : (T1 ns).length = ns.length := by simp [T1]
      rw [this]
      by_cases k : (ddL ns).length < ns.length
      · have k2 : ((ddL ns).length : Int) < (ns.length : Nat) := by omega
        simp [k, k2]
      · have k2 : ¬ ((ddL ns).length : Int) < (ns.length : Nat) := by omega
        simp [k, k2]
    have d1 : tstD (binR neF (lcD (itJ (varD 1)) [6] (.nm 6) (tstD (binR neF (varD 6) (sortD (consA (varD 6) nilA)))) (varD 6)) (lstD nilA)) [.im (.str T), .ow 0 (LS H), .ow 0 (T1 H.flatten), x, y, z, .no, .no] = .ok (unsorted H) := by
      have f1 := lcD_filt (s := itJ (varD 1)) (vs := [6]) (k := .nm 6) (t := tstD (binR neF (varD 6) (sortD (consA (varD 6) nilA)))) (e := varD 6) (ρ := [.im (.str T), .ow 0 (LS H), .ow 0 (T1 H.flatten), x, y, z, .no, .no]) H (fun r => L1 r) (fun r => L1 r) (fun r => !decide (r = sortI r)) (by simp; rfl) (by have := split_len T oNl; have : (rows T).length = (Txt.split T sNl).length := rfl; omega) (fun r hr => ⟨_, rfl, by simp [sortD, neF_L1], fun _ => by simp⟩)
      have l0 : lstD nilA [.im (.str T), .ow 0 (LS H), .ow 0 (T1 H.flatten), x, y, z, .no, .no] = .ok (.fr 0 []) := by simp; rfl
      refine tst_ok (cmp_ok f1 l0 (e_datf0 _) (e_datf0 _) ((neF_nil (shp_LL _)).trans ?_))
      congr 2
      have q : ((H.filter fun r => !decide (r = sortI r)).map (fun r => L1 r) = []) ↔ ∀ r ∈ H, sortI r = r := by
        rw [List.map_eq_nil_iff, List.filter_eq_nil_iff]
        exact ⟨fun h r hr => by have := h r hr; simp only [Bool.not_eq_true', decide_eq_false_iff_not, Decidable.not_not] at this; exact this.symm, fun h r hr => by simp [(h r hr).symm.symm]⟩
      unfold unsorted
      by_cases k : ∀ r ∈ H, sortI r = r
      · have k1 := q.mpr k
        have k2 : (H.any fun s => !decide (sortI s = s)) = false := List.any_eq_false.mpr fun r hr => by simp [k r hr]
        rw [k2]
        simp [k1]
      · have k1 : ¬ _ := fun h => k (q.mp h)
        have k2 : (H.any fun s => !decide (sortI s = s)) = true := by
          cases e : H.any fun s => !decide (sortI s = s) with
          | true => rfl
          | false => exact absurd (fun r hr => by simpa using List.any_eq_false.mp e r hr) k
        rw [k2, decide_eq_false k1]
        rfl
    have d2 : tstD (binR gtI (cbD maxF (consA (addD (varD 2) (lstD (consA (cD (.int 0)) nilA))) nilA)) (cD (.int 39))) [.im (.str T), .ow 0 (LS H), .ow 0 (T1 H.flatten), x, y, z, .no, .no] = .ok (!decide (maxL (H.flatten ++ [0]) ≤ 39)) := by
      have lf : H.flatten.length ≤ 1000 := by omega
      generalize H.flatten = ns at lf
      have a1 : addD (varD 2) (lstD (consA (cD (.int 0)) nilA)) [.im (.str T), .ow 0 (LS H), .ow 0 (T1 ns), x, y, z, .no, .no] = .ok (.fr 0 (T1 ns ++ [PyData.int 0])) :=
        addD_ok (r1 := .ro 0 (T1 ns)) (r2 := .fr 0 [PyData.int 0]) rfl (by simp; rfl) (e_datr0 _) (e_datf0 _) rfl (kids_fr0 _) (by simp only [T1, List.length_map, List.length_cons, List.length_nil]; omega)
      have a2 : T1 ns ++ [PyData.int 0] = (ns ++ [0]).map PyData.int := by simp [T1]
      rw [a2] at a1
      have m1 : maxF [.list ((ns ++ [0]).map PyData.int)] = some (.int (maxL (ns ++ [0]))) := by
        show ((intsOf ((ns ++ [0]).map PyData.int)).bind fun ns => if ns = [] then none else some (PyData.int (maxL ns))) = _
        rw [intsOf_map]
        simp
      have m2 : cbD maxF (consA (addD (varD 2) (lstD (consA (cD (.int 0)) nilA))) nilA) [.im (.str T), .ow 0 (LS H), .ow 0 (T1 ns), x, y, z, .no, .no] = .ok (.im (.int (maxL (ns ++ [0])))) := by
        unfold cbD
        simp only [consA, nilA, a1, bind_ok, List.map_cons, List.map_nil, R.fz_dat, e_datf0, m1]
      refine tst_ok (cmp_ok m2 rfl rfl rfl ?_)
      by_cases k : maxL (ns ++ [0]) ≤ 39
      · have k2 : ¬ 39 < maxL (ns ++ [0]) := by omega
        simp [k, k2]
      · have k2 : 39 < maxL (ns ++ [0]) := by omega
        simp [k, k2]
    by_cases k8 : H.length ≤ 8
    · have o2 := or_ok (c2 k8) fun _ => c3
      have o1 := or_ok c1 fun _ => o2
      have o4 := or_ok d1 fun _ => d2
      simp only [k8, decide_true, Bool.not_true, Bool.false_or, Bool.true_and] at o1 ⊢
      cases q1 : decide (textT H = T) <;> cases q2 : decide H.flatten.Nodup <;> simp only [q1, q2, Bool.not_true, Bool.not_false, Bool.false_or, Bool.true_or, Bool.or_true, Bool.or_false, Bool.false_and, Bool.true_and, Bool.and_false] at o1 ⊢ <;>
        first
        | (rw [seq_ift o1, seq_ret]; rfl)
        | (rw [seq_iff o1, seq_nx]
           cases q3 : unsorted H <;> cases q4 : decide (maxL (H.flatten ++ [0]) ≤ 39) <;> simp only [q3, q4, Bool.not_true, Bool.not_false, Bool.false_or, Bool.true_or, Bool.or_true, Bool.or_false, Bool.false_and, Bool.true_and, Bool.and_false] at o4 ⊢ <;>
             first
             | (rw [seq_ift o4, seq_ret]; rfl)
             | (rw [seq_iff o4, seq_nx]; rfl))
    · have o1 : orT (tstD (binR gtI (cbD lenF (consA (varD 1) nilA)) (cD (.int 8)))) (orT (tstD (binR neF (callD f__law_text (consA (varD 1) nilA)) (varD 0))) (tstD (binR ltI (lenSetD (varD 2)) (cbD lenF (consA (varD 2) nilA))))) [.im (.str T), .ow 0 (LS H), .ow 0 (T1 H.flatten), x, y, z, .no, .no] = .ok true := by
        unfold orT
        rw [c1, bind_ok]
        simp [k8]
      rw [seq_ift o1, seq_ret]
      simp [k8]
/-! #### maths: eq14 -/
theorem rowB_iff {i : Nat} {r : Str} : rowB i r = true ↔ ws r = (tI i ++ sCol) :: (rowV r).map tI ∧ ∀ v ∈ rowV r, 0 ≤ v ∧ v < 40 := by
  obtain ⟨w0, us, ew⟩ : ∃ w0 us, ws r = w0 :: us := by
    cases e : ws r with
    | nil => exact absurd e (split_ne r oSp)
    | cons a b => exact ⟨a, b, rfl⟩
  have ev : rowV r = us.map numV := by unfold rowV; rw [ew]; rfl
  constructor
  · intro h
    refine ⟨?_, rowV_num h⟩
    unfold rowB at h
    rw [ew] at h ⊢
    simp only [List.head?_cons, List.drop_succ_cons, List.drop_zero, Bool.and_eq_true, decide_eq_true_eq, Option.some.injEq, List.all_eq_true] at h
    rw [ev, h.1, List.map_map]
    congr 1
    have : us.map (tI ∘ numV) = us.map id := List.map_congr_left fun w hw => by
      obtain ⟨v, hv, rfl⟩ := (mem_nums w).mp (h.2 w hw)
      simp only [Function.comp, id, numV_tI hv]
    rw [this, List.map_id]
  · rintro ⟨h1, h2⟩
    unfold rowB
    rw [h1]
    simp only [List.head?_cons, decide_true, Bool.true_and, List.drop_succ_cons, List.drop_zero, List.all_eq_true]
    intro w hw
    obtain ⟨v, hv, rfl⟩ := List.mem_map.mp hw
    exact decide_eq_true ((mem_nums _).mpr ⟨v, h2 v hv, rfl⟩)
theorem held_getD (t : Str) (i : Nat) (h : i < (rows t).length) : (heldT t).getD i [] = rowV ((rows t).getD i Str.empty) := by
  rw [List.getD_eq_getElem?_getD, heldT_get t i h]
  rfl
theorem rowsB_iff {t : Str} : rowsB t = true ↔ ∀ i, i < (rows t).length → rowB i ((rows t).getD i Str.empty) = true := by
  unfold rowsB
  rw [List.all_eq_true]
  exact ⟨fun h i hi => h i (by simpa using hi), fun h i hi => h i (by simpa using hi)⟩
theorem rows_get (t : Str) {r : Str} (h : r ∈ rows t) : ∃ i, i < (rows t).length ∧ (rows t).getD i Str.empty = r := by
  obtain ⟨i, hi⟩ := List.mem_iff_getElem?.mp h
  refine ⟨i, (List.getElem?_eq_some_iff.mp hi).1, ?_⟩
  rw [List.getD_eq_getElem?_getD, hi]
  rfl
theorem text_of {t : Str} (h : rowsB t = true) : textT (heldT t) = t := by
  have h := rowsB_iff.mp h
  have e : rowsT (heldT t) (heldT t).length = rows t := by
    apply List.ext_getElem
    · simp [rowsT, heldT]
    · intro i h1 h2
      have := (rowB_iff.mp (h i h2)).1
      simp only [rowsT, List.getElem_map, List.getElem_range]
      rw [held_getD t i h2]
      have eg : (rows t).getD i Str.empty = (rows t)[i] := by rw [List.getD_eq_getElem?_getD, List.getElem?_eq_getElem h2]; rfl
      rw [eg] at this ⊢
      rw [tl_row, ← this]
      exact join_split _ oSp
  unfold textT
  rw [e]
  exact join_split t oNl
theorem max_le {ns : List Int} {b : Int} : maxL (ns ++ [0]) ≤ b ↔ 0 ≤ b ∧ ∀ v ∈ ns, v ≤ b := by
  constructor
  · intro h
    exact ⟨Int.le_trans (maxL_ge (by simp)) h, fun v hv => Int.le_trans (maxL_ge (List.mem_append_left _ hv)) h⟩
  · rintro ⟨h1, h2⟩
    have := maxL_mem (ns := ns ++ [0]) (by simp)
    rcases List.mem_append.mp this with q | q
    · exact h2 _ q
    · rw [List.mem_singleton.mp q]; exact h1
theorem ready (t : Str) : readB t = dueB t := by
  rw [Bool.eq_iff_iff]
  unfold readB dueB
  have es : shB (heldT t) = (!unsorted (heldT t) && decide (heldT t).flatten.Nodup) := rfl
  rw [es]
  simp only [Bool.and_eq_true, decide_eq_true_eq, Bool.not_eq_true']
  constructor
  · rintro ⟨h8, hr, hs, hn⟩
    have h := rowsB_iff.mp hr
    have hv := held_num hr
    refine ⟨List.all_eq_true.mpr fun r hm => ?_, h8, text_of hr, hn, hs, max_le.mpr ⟨by omega, fun v hm => ?_⟩⟩
    · obtain ⟨i, hi, rfl⟩ := rows_get t hm
      obtain ⟨q1, q2⟩ := rowB_iff.mp (h i hi)
      unfold rowok
      rw [q1]
      simp only [List.drop_succ_cons, List.drop_zero]
      refine List.all_eq_true.mpr fun w hw => ?_
      obtain ⟨v, hv, rfl⟩ := List.mem_map.mp hw
      exact wOk_tI (q2 v hv)
    · obtain ⟨s, hs, hv'⟩ := List.mem_flatten.mp hm
      have := hv s hs v hv'
      omega
  · rintro ⟨hok, h8, ht, hn, hs, hm⟩
    have hnum : ∀ s ∈ heldT t, ∀ v ∈ s, 0 ≤ v := fun s hs v hv => by
      obtain ⟨r, h, rfl⟩ := List.mem_map.mp hs
      exact (rowok_num (List.all_eq_true.mp hok r h) v hv).1
    have hmax := (max_le.mp hm).2
    have hne : heldT t ≠ [] := fun e => split_ne t oNl (List.map_eq_nil_iff.mp e)
    have er : rows t = rowsT (heldT t) (heldT t).length := by
      rw [← text_split hne hnum, ht]
      rfl
    refine ⟨h8, rowsB_iff.mpr fun i hi => ?_, hs, hn⟩
    have hi2 : i < (heldT t).length := by simpa [heldT] using hi
    have e1 : (rows t).getD i Str.empty = rowT i ((heldT t).getD i []) := by
      rw [er, List.getD_eq_getElem?_getD]
      simp [rowsT, hi2]
    have mem : (heldT t).getD i [] ∈ heldT t := by
      rw [List.getD_eq_getElem?_getD, List.getElem?_eq_getElem hi2]
      exact List.getElem_mem hi2
    have hv := held_getD t i hi
    refine rowB_iff.mpr ⟨?_, fun v hv' => ?_⟩
    · rw [← hv]
      unfold ws
      rw [e1]
      exact row_split i (hnum _ mem)
    · rw [← hv] at hv'
      have h1 := hnum _ mem v hv'
      have h2 := hmax v (List.mem_flatten.mpr ⟨_, mem, hv'⟩)
      omega
/-! #### maths: drawn14 -/
theorem cutS_tl (z : Str) (lo hi : Option Int) : ∀ c ∈ TL.tl (cutS z lo hi), c ∈ TL.tl z := fun c hc => by
  have : ∀ (l : List Nat) (a b : Nat), c ∈ (l.drop a).take b → c ∈ l := fun l a b h => List.mem_of_mem_drop (List.mem_of_mem_take h)
  unfold cutS at hc
  exact this _ _ _ hc
theorem cutS_ok {z : Str} (h : PyData.strOk z = true) (lo hi : Option Int) : PyData.strOk (cutS z lo hi) = true := by
  rw [ok_iff] at h ⊢
  exact fun c hc => h c (cutS_tl z lo hi c hc)
theorem slS_ok {a : ED} {l u : OD} {ρ : Z.Env} {z : Str} {lo hi : Option Int} {r : R} (h1 : a ρ = .ok r) (q : r.dat = .str z) (h2 : l ρ = .ok lo) (h3 : u ρ = .ok hi) (hl : z.length ≤ 100000) : slSD a l u ρ = .ok (.im (.str (cutS z lo hi))) := by
  unfold slSD
  rw [h1, bind_ok, h2, bind_ok, h3, bind_ok, q]
  simp only
  rw [if_pos hl]
theorem addS_ok {a b : ED} {ρ : Z.Env} {x y : Str} (h1 : a ρ = .ok (.im (.str x))) (h2 : b ρ = .ok (.im (.str y))) (hl : x.length + y.length ≤ 100000) : addD a b ρ = .ok (.im (.str (x ++ y))) := by
  unfold addD
  rw [h1, bind_ok, h2, bind_ok]
  simp only [e_dat1]
  rw [if_pos hl]
theorem ixS_ok {a b : ED} {ρ : Z.Env} {z : Str} {k : Int} (h1 : a ρ = .ok (.im (.str z))) (h2 : b ρ = .ok (.im (.int k))) (hz : z.length ≤ 1000) (h0 : 0 ≤ k) (hk : k < (z.length : Int)) (hok : PyData.strOk z = true) : ∃ c : Str, ixD a b ρ = .ok (.im (.str c)) ∧ c.length = 1 ∧ PyData.strOk c = true := by
  have hl : k < ((TL.tl z).length : Nat) := by rw [← TL.len_tl]; exact hk
  obtain ⟨c, hc⟩ : ∃ c, atI (TL.tl z) k = some c := by
    rw [Z.atI_nat _ _ h0 hl]
    exact ⟨_, List.getElem?_eq_getElem (by omega)⟩
  have hm : c ∈ TL.tl z := by
    rw [Z.atI_nat _ _ h0 hl] at hc
    exact List.mem_of_getElem? hc
  refine ⟨⟨#[c]⟩, ix_ok h1 h2 ?_, rfl, shp_sign ((ok_iff z).mp hok c hm)⟩
  have : ixF (R.fz (.im (.str z))) k = if z.length ≤ 100000 then (atI (TL.tl z) k).map fun c => R.im (.str ⟨#[c]⟩) else none := rfl
  rw [this, if_pos (by omega), hc]
  rfl
abbrev sA : Str := Str.ofString "0123456789: \n0 7"
abbrev sB : Str := Str.ofString " !\"#$&'()*+,-./0123456789:;<=>?@ABCDEFGHIJKLMNOPQRSTUVWXYZ[\\]^_`abcdefghijklmnopqrstuvwxyz{|}~\t"
theorem sA_len : sA.length = 16 := by decide +kernel
theorem sB_len : sB.length = 95 := by decide +kernel
theorem sign_eq (N : Int) : ∃ c : Str, f__law_sign [.int N] = .ok (.im (.str c)) ∧ c.length = 1 ∧ PyData.strOk c = true := by
  unfold f__law_sign
  rw [den_eq]
  show ∃ c : Str, fin (seqD (ifD _ _ _) (seqD (asgD 1 _) (retD _)) [.im (.int N), .no]) = _ ∧ _
  have e1 : 0 ≤ N / 4 % 16 ∧ N / 4 % 16 < 16 := by omega
  have e2 : 0 ≤ N / 4 % 95 ∧ N / 4 % 95 < 95 := by omega
  by_cases h : 0 < N % 4
  · obtain ⟨c, q1, q2, q3⟩ := ixS_ok (a := cD (.str sA)) (b := binR modI (binR divI (varD 0) (cD (.int 4))) (cD (.int 16))) (ρ := [.im (.int N), .no]) (z := sA) (k := N / 4 % 16) rfl (by simp) (by rw [sA_len]; decide) e1.1 (by rw [sA_len]; exact e1.2) (ok_of _)
    refine ⟨c, ?_, q2, q3⟩
    rw [seq_ift (by simp [h]), seq_ret]
    unfold retD
    rw [q1]
    rfl
  · obtain ⟨c, q1, q2, q3⟩ := ixS_ok (a := varD 1) (b := binR modI (binR divI (varD 0) (cD (.int 4))) (cD (.int 95))) (ρ := [.im (.int N), .im (.str sB)]) (z := sB) (k := N / 4 % 95) rfl (by simp) (by rw [sB_len]; decide) e2.1 (by rw [sB_len]; exact e2.2) (ok_of _)
    refine ⟨c, ?_, q2, q3⟩
    have h1 : asgD 1 (cD (.str sB)) [.im (.int N), .no] = .nx [.im (.int N), .im (.str sB)] := rfl
    rw [seq_iff (by simp [h]), seq_nx, seq_of h1]
    unfold retD
    rw [q1]
    rfl
/-- lists of texts, their sizes -/
def tot (l : List Str) : Nat := (l.map (·.length)).sum
theorem tot_app (a b : List Str) : tot (a ++ b) = tot a + tot b := by simp [tot]
theorem tot_one (a : Str) : tot [a] = a.length := by simp [tot]
theorem tot_cut (l : List Str) (k : Nat) (h : k < l.length) : tot (l.take k) + l[k].length + tot (l.drop (k + 1)) = tot l := by
  have e : l = l.take k ++ ([l[k]] ++ l.drop (k + 1)) := by
    rw [List.singleton_append, List.getElem_cons_drop, List.take_append_drop]
  have := congrArg tot e
  rw [tot_app, tot_app, tot_one] at this
  omega
theorem tot_take (l : List Str) (k : Nat) : tot (l.take k) + tot (l.drop k) = tot l := by
  rw [← tot_app, List.take_append_drop]
theorem join_len {s : Str} : ∀ l : List Str, (Txt.join s l).length ≤ tot l + l.length * s.length
  | [] => by rw [TL.len_tl, TL.join_eq, TL.tl_join]; simp [TL.joinL]
  | a :: bs => by
    rw [join_fold, foldT_len]
    have e : (bs.map fun b => s.length + b.length).sum = bs.length * s.length + tot bs := by
      unfold tot
      induction bs with
      | nil => simp
      | cons b bs ih => simp only [List.map_cons, List.sum_cons, List.length_cons, Nat.add_mul, Nat.one_mul] at ih ⊢; omega
    rw [e]
    simp only [tot, List.map_cons, List.sum_cons, List.length_cons, Nat.add_mul, Nat.one_mul]
    omega
/-- a text of at most m signs -/
structure TOk (m : Nat) (z : Str) : Prop where
  ok : PyData.strOk z = true
  len : z.length ≤ m
def Res (m : Nat) (o : Out R) : Prop := ∃ z : Str, o = .ok (.im (.str z)) ∧ TOk m z
theorem joinTS_ok {c : Str} {a : ED} {ρ : Z.Env} {l : List Str} {m : Nat} (h : a ρ = .ok (.fr 0 (TS l)) ∨ a ρ = .ok (.ro 0 (TS l))) (hc : PyData.strOk c = true) (hl : ∀ x ∈ l, PyData.strOk x = true) (h1 : c.length = 1) (ht : tot l + l.length ≤ m) (hm : m ≤ 100000) : ∃ z : Str, joinD c a ρ = .ok (.im (.str z)) ∧ TOk m z := by
  have len := join_len (s := c) l
  rw [h1, Nat.mul_one] at len
  refine ⟨Txt.join c l, ?_, ok_join hc l hl, by omega⟩
  have hs : (l.map (·.length)).sum + l.length * c.length ≤ 100000 := by
    rw [h1, Nat.mul_one]
    have : (l.map (·.length)).sum = tot l := rfl
    omega
  rcases h with h | h
  · exact joinD_ok h (kidsS_fr0 _) hs
  · exact joinD_ok h rfl hs
/-! #### maths: changed14 -/
theorem TS_append (a b : List Str) : TS a ++ TS b = TS (a ++ b) := by simp [TS]
theorem slT_to {e : ED} {ρ : Z.Env} {l : List Str} {j k : Nat} (h1 : ρ[j]? = some (.ow 0 (TS l))) (h2 : e ρ = .ok (.im (.int (k : Nat)))) (hk : k ≤ l.length) : slD (varD j) noO (soO e) ρ = .ok (.fr 0 (TS (l.take k))) := by
  have e1 : @cutL PD (TS l) none (some (k : Int)) = TS (l.take k) := by rw [cut_to _ k (by rw [TS_len]; exact hk)]; simp [TS]
  have v : varD j ρ = .ok (.ro 0 (TS l)) := by unfold varD; rw [h1]
  unfold slD
  rw [v, bind_ok]
  simp only [noO, un_soO, h2, bind_ok, e_dat1]
  exact congrArg (fun z : List PD => Out.ok (R.fr 0 z)) e1
theorem slT_from {e : ED} {ρ : Z.Env} {l : List Str} {j k : Nat} (h1 : ρ[j]? = some (.ow 0 (TS l))) (h2 : e ρ = .ok (.im (.int (k : Nat)))) (hk : k ≤ l.length) : slD (varD j) (soO e) noO ρ = .ok (.fr 0 (TS (l.drop k))) := by
  have e1 : @cutL PD (TS l) (some (k : Int)) none = TS (l.drop k) := by rw [cut_from _ k (by rw [TS_len]; exact hk)]; simp [TS]
  have v : varD j ρ = .ok (.ro 0 (TS l)) := by unfold varD; rw [h1]
  unfold slD
  rw [v, bind_ok]
  simp only [noO, un_soO, h2, bind_ok, e_dat1]
  exact congrArg (fun z : List PD => Out.ok (R.fr 0 z)) e1
theorem ixT {e : ED} {ρ : Z.Env} {l : List Str} {j k : Nat} (h1 : ρ[j]? = some (.ow 0 (TS l))) (h2 : e ρ = .ok (.im (.int (k : Nat)))) (hk : k < l.length) : lstD (consA (ixD (varD j) e) nilA) ρ = .ok (.fr 0 (TS [l[k]])) := by
  have v : varD j ρ = .ok (.ro 0 (TS l)) := by unfold varD; rw [h1]
  have a1 : atI (TS l) (k : Int) = some (.str l[k]) := by
    rw [Z.atI_nat _ _ (by omega) (by rw [TS_len]; omega), Int.toNat_natCast]
    simp [TS, hk]
  have a2 : ixD (varD j) e ρ = .ok (.im (.str l[k])) := ix_ok v h2 (by show (atI (TS l) (k : Int)).map R.im = _; rw [a1]; rfl)
  unfold lstD
  simp only [consA, nilA, a2, bind_ok]
  simp
  rfl
theorem addT {a b : ED} {ρ : Z.Env} {x y : List Str} (h1 : a ρ = .ok (.fr 0 (TS x))) (h2 : b ρ = .ok (.fr 0 (TS y))) (hl : x.length + y.length ≤ 100000) : addD a b ρ = .ok (.fr 0 (TS (x ++ y))) := by
  rw [← TS_append]
  exact addD_ok h1 h2 (e_datf0 _) (e_datf0 _) (kids_fr0 _) (kids_fr0 _) (by rw [TS_len, TS_len]; exact hl)
theorem TOk.mono {m n : Nat} {z : Str} (h : TOk m z) (hm : m ≤ n) : TOk n z := ⟨h.ok, Nat.le_trans h.len hm⟩
theorem split_tot (x : Str) {y : Str} {s : Nat} (o : One y s) : tot (Txt.split x y) + (Txt.split x y).length = x.length + 1 := split_sum x o
theorem one_of {n : Nat} (N : Int) (h : 0 < n) : ∃ k : Nat, N / 9 % (n : Int) = k ∧ k < n := by
  have h1 := Int.emod_nonneg (N / 9) (b := n) (by omega)
  have h2 := Int.emod_lt_of_pos (N / 9) (b := n) (by omega)
  exact ⟨(N / 9 % (n : Int)).toNat, by omega, by omega⟩
theorem changed_eq {T : Str} {m : Nat} (h : TOk m T) (hm : m ≤ 400) (N : Int) : Res (2 * m + 3) (f__law_changed [.str T, .int N]) := by
  obtain ⟨c, sg, c1, cok⟩ := sign_eq (N / 700)
  have hl := h.len
  obtain ⟨p, hp, _⟩ := one_of (n := T.length + 1) N (by omega)
  unfold f__law_changed
  rw [den_eq]
  show Res _ (fin (seqD (asgD 2 _) (seqD (asgD 3 _) (seqD (asgD 4 _) _)) [.im (.str T), .im (.int N), .no, .no, .no, .no, .no, .no]))
  have s2 : asgD 2 (binR modI (varD 1) (cD (.int 9))) [.im (.str T), .im (.int N), .no, .no, .no, .no, .no, .no] = .nx [.im (.str T), .im (.int N), .im (.int (N % 9)), .no, .no, .no, .no, .no] := asg_im (by simp)
  have ln : ∀ ρ : Z.Env, ρ[0]? = some (.im (.str T)) → cbD lenF (consA (varD 0) nilA) ρ = .ok (.im (.int (T.length : Nat))) := fun ρ hρ => by
    have e1 : lenF [.str T] = some (.int (T.length : Nat)) := by
      show (if T.length ≤ 100000 then _ else _) = _
      rw [if_pos (by omega)]
    simp [hρ, e1]
  have s3 : asgD 3 (binR modI (binR divI (varD 1) (cD (.int 9))) (addD (cbD lenF (consA (varD 0) nilA)) (cD (.int 1)))) [.im (.str T), .im (.int N), .im (.int (N % 9)), .no, .no, .no, .no, .no] = .nx [.im (.str T), .im (.int N), .im (.int (N % 9)), .im (.int p), .no, .no, .no, .no] := by
    refine asg_im ?_
    have := ln [.im (.str T), .im (.int N), .im (.int (N % 9)), .no, .no, .no, .no, .no] rfl
    have a1 : addD (cbD lenF (consA (varD 0) nilA)) (cD (.int 1)) [.im (.str T), .im (.int N), .im (.int (N % 9)), .no, .no, .no, .no, .no] = .ok (.im (.int (T.length + 1))) := by
      unfold addD
      rw [this]
      rfl
    have q : 0 < (T.length : Int) + 1 := by omega
    refine cmp_ok (r1 := .im (.int (N / 9))) (r2 := .im (.int (T.length + 1))) (by simp) a1 rfl rfl ?_
    have hp' : N / 9 % ((T.length : Int) + 1) = p := by rw [← hp]; rfl
    show (if 0 < (T.length : Int) + 1 then some (PyData.int (N / 9 % ((T.length : Int) + 1))) else none) = _
    rw [if_pos q, hp']
  have s4 : asgD 4 (callD f__law_sign (consA (binR divI (varD 1) (cD (.int 700))) nilA)) [.im (.str T), .im (.int N), .im (.int (N % 9)), .im (.int p), .no, .no, .no, .no] = .nx [.im (.str T), .im (.int N), .im (.int (N % 9)), .im (.int p), .im (.str c), .no, .no, .no] :=
    asg_im (call_1 (r1 := .im (.int (N / 700))) (by simp) rfl sg rfl)
  rw [seq_of s2, seq_of s3, seq_of s4]
  obtain ⟨ρ, hρ⟩ : ∃ ρ : Z.Env, ρ = [.im (.str T), .im (.int N), .im (.int (N % 9)), .im (.int p), .im (.str c), .no, .no, .no] := ⟨_, rfl⟩
  have cut := fun (lo hi : OD) (a b : Option Int) (h1 : lo ρ = .ok a) (h2 : hi ρ = .ok b) => slS_ok (a := varD 0) (r := .im (.str T)) (by rw [hρ]; rfl) rfl h1 h2 (by omega)
  have at3 : soO (varD 3) ρ = .ok (some (p : Int)) := by rw [hρ]; rfl
  have at31 : soO (addD (varD 3) (cD (.int 1))) ρ = .ok (some ((p : Int) + 1)) := by rw [hρ]; rfl
  have v4 : varD 4 ρ = .ok (.im (.str c)) := by rw [hρ]; rfl
  have cl : ∀ a b, (cutS T a b).length ≤ m := fun a b => Nat.le_trans (cutS_length T a b) hl
  have w3 : ∀ (a b a2 b2 : Option Int) (x y : ED), x ρ = .ok (.im (.str (cutS T a b))) → y ρ = .ok (.im (.str (cutS T a2 b2))) → ∃ z, addD (addD x (varD 4)) y ρ = .ok (.im (.str z)) ∧ TOk (2 * m + 3) z := fun a b a2 b2 x y hx hy => by
    have l1 := cl a b
    have l2 := cl a2 b2
    have e1 := addS_ok hx v4 (by omega)
    have e2 := addS_ok e1 hy (by rw [len_app]; omega)
    exact ⟨_, e2, ok_app (ok_app (cutS_ok h.ok _ _) cok) (cutS_ok h.ok _ _), by rw [len_app, len_app]; omega⟩
  have w2 : ∀ (a b a2 b2 : Option Int) (x y : ED), x ρ = .ok (.im (.str (cutS T a b))) → y ρ = .ok (.im (.str (cutS T a2 b2))) → ∃ z, addD x y ρ = .ok (.im (.str z)) ∧ TOk (2 * m + 3) z := fun a b a2 b2 x y hx hy => by
    have l1 := cl a b
    have l2 := cl a2 b2
    exact ⟨_, addS_ok hx hy (by omega), ok_app (cutS_ok h.ok _ _) (cutS_ok h.ok _ _), by rw [len_app]; omega⟩
  have tl : ∀ k : Int, tstD (binR ltI (varD 2) (cD (.int k))) ρ = .ok (decide (N % 9 < k)) := fun k => by rw [hρ]; simp
  have te : ∀ k : Int, tstD (binR eqF (varD 2) (cD (.int k))) ρ = .ok (decide (N % 9 = k)) := fun k => by rw [hρ]; simp
  rw [← hρ]
  have fin_ret : ∀ {e : ED} {z : Str} (σ : Z.Env), e σ = .ok (.im (.str z)) → TOk (2 * m + 3) z → Res (2 * m + 3) (fin (retD e σ)) := fun σ he hz => by
    refine ⟨_, ?_, hz⟩
    unfold retD
    rw [he]
    rfl
  show Res _ (fin (seqD (ifD _ _ _) (seqD (ifD _ _ _) (seqD (ifD _ _ _) (seqD (ifD _ _ _) (seqD (asgD 7 _) (seqD (asgD 6 _) (seqD (ifD _ _ _) (seqD (ifD _ _ _) (seqD (ifD _ _ _) (retD _))))))))) ρ))
  by_cases x2 : N % 9 < 2
  · rw [seq_ift (by rw [tl]; simp [x2]), seq_ret]
    obtain ⟨z, e, hz⟩ := w3 none (some p) (some p) none _ _ (cut noO _ none _ rfl at3) (cut _ noO _ none at3 rfl)
    exact fin_ret ρ e hz
  rw [seq_iff (by rw [tl]; simp [x2]), seq_nx]
  by_cases x4 : N % 9 < 4
  · rw [seq_ift (by rw [tl]; simp [x4]), seq_ret]
    obtain ⟨z, e, hz⟩ := w2 none (some p) (some ((p : Int) + 1)) none _ _ (cut noO _ none _ rfl at3) (cut _ noO _ none at31 rfl)
    exact fin_ret ρ e hz
  rw [seq_iff (by rw [tl]; simp [x4]), seq_nx]
  by_cases y4 : N % 9 = 4
  · rw [seq_ift (by rw [te]; simp [y4]), seq_ret]
    obtain ⟨z, e, hz⟩ := w3 none (some p) (some ((p : Int) + 1)) none _ _ (cut noO _ none _ rfl at3) (cut _ noO _ none at31 rfl)
    exact fin_ret ρ e hz
  rw [seq_iff (by rw [te]; simp [y4]), seq_nx]
  by_cases y5 : N % 9 = 5
  · obtain ⟨W, eW⟩ : ∃ W, W = Txt.split T sSp := ⟨_, rfl⟩
    have tot1 := split_tot T oSp
    have pos : 0 < (Txt.split T sSp).length := List.length_pos_iff.mpr (split_ne T oSp)
    have wok := split_ok oSp h.ok
    rw [← eW] at tot1 pos wok
    obtain ⟨k, hk, hk2⟩ := one_of N pos
    rw [seq_ift (by rw [te]; simp [y5]), seq_seq]
    have s5 : asgD 5 (splitD (varD 0) (cD (.str (Str.ofString " ")))) ρ = .nx [.im (.str T), .im (.int N), .im (.int (N % 9)), .im (.int p), .im (.str c), .ow 0 (TS W), .no, .no] := by
      rw [hρ, eW]
      exact asg_fr (splitD_ok (ra := .im (.str T)) rfl rfl rfl rfl (by rw [lSp]; decide) (by omega))
    have s6 : asgD 6 (binR modI (binR divI (varD 1) (cD (.int 9))) (cbD lenF (consA (varD 5) nilA))) [.im (.str T), .im (.int N), .im (.int (N % 9)), .im (.int p), .im (.str c), .ow 0 (TS W), .no, .no] = .nx [.im (.str T), .im (.int N), .im (.int (N % 9)), .im (.int p), .im (.str c), .ow 0 (TS W), .im (.int k), .no] := by
      refine asg_im (cmp_ok (r1 := .im (.int (N / 9))) (by simp) (len_ok (ds := TS W) (r := .ro 0 (TS W)) rfl (e_datr0 _)) rfl rfl ?_)
      rw [TS_len]
      show (if 0 < (W.length : Int) then some (PyData.int (N / 9 % (W.length : Int))) else none) = _
      rw [if_pos (by omega), hk]
    rw [seq_of s5, seq_seq, seq_of s6, seq_ret]
    obtain ⟨σ, hσ⟩ : ∃ σ : Z.Env, σ = [.im (.str T), .im (.int N), .im (.int (N % 9)), .im (.int p), .im (.str c), .ow 0 (TS W), .im (.int k), .no] := ⟨_, rfl⟩
    rw [← hσ]
    have a1 := slT_to (j := 5) (e := varD 6) (ρ := σ) (l := W) (k := k) (by rw [hσ]; rfl) (by rw [hσ]; rfl) (by omega)
    have a2 := slT_from (j := 5) (e := addD (varD 6) (cD (.int 1))) (ρ := σ) (l := W) (k := k + 1) (by rw [hσ]; rfl) (by rw [hσ]; rfl) (by omega)
    have a3 := ixT (j := 5) (e := varD 6) (ρ := σ) (l := W) (k := k) (by rw [hσ]; rfl) (by rw [hσ]; rfl) hk2
    have b1 := addT a1 a2 (by rw [List.length_take, List.length_drop]; omega)
    have b2 := addT b1 a3 (by rw [List.length_append, List.length_take, List.length_drop, List.length_singleton]; omega)
    have tc := tot_cut W k hk2
    obtain ⟨z, e, hz⟩ := joinTS_ok (c := sSp) (m := 2 * m + 3) (.inl b2) (ok_of _) (fun x hx => by
      rcases List.mem_append.mp hx with q | q
      · rcases List.mem_append.mp q with q | q
        · exact wok x (List.mem_of_mem_take q)
        · exact wok x (List.mem_of_mem_drop q)
      · rw [List.mem_singleton.mp q]; exact wok _ (List.getElem_mem hk2)) lSp (by
        rw [tot_app, tot_app, tot_one, List.length_append, List.length_append, List.length_take, List.length_drop, List.length_singleton]
        omega) (by omega)
    exact fin_ret σ e hz
  rw [seq_iff (by rw [te]; simp [y5]), seq_nx]
  obtain ⟨W, eW⟩ : ∃ W, W = Txt.split T sNl := ⟨_, rfl⟩
  have tot1 := split_tot T oNl
  have pos : 0 < (Txt.split T sNl).length := List.length_pos_iff.mpr (split_ne T oNl)
  have wok := split_ok oNl h.ok
  rw [← eW] at tot1 pos wok
  obtain ⟨k, hk, hk2⟩ := one_of N pos
  have s5 : asgD 7 (splitD (varD 0) (cD (.str (Str.ofString "\n")))) ρ = .nx [.im (.str T), .im (.int N), .im (.int (N % 9)), .im (.int p), .im (.str c), .no, .no, .ow 0 (TS W)] := by
    rw [hρ, eW]
    exact asg_fr (splitD_ok (ra := .im (.str T)) rfl rfl rfl rfl (by rw [lNl]; decide) (by omega))
  have s6 : asgD 6 (binR modI (binR divI (varD 1) (cD (.int 9))) (cbD lenF (consA (varD 7) nilA))) [.im (.str T), .im (.int N), .im (.int (N % 9)), .im (.int p), .im (.str c), .no, .no, .ow 0 (TS W)] = .nx [.im (.str T), .im (.int N), .im (.int (N % 9)), .im (.int p), .im (.str c), .no, .im (.int k), .ow 0 (TS W)] := by
    refine asg_im (cmp_ok (r1 := .im (.int (N / 9))) (by simp) (len_ok (ds := TS W) (r := .ro 0 (TS W)) rfl (e_datr0 _)) rfl rfl ?_)
    rw [TS_len]
    show (if 0 < (W.length : Int) then some (PyData.int (N / 9 % (W.length : Int))) else none) = _
    rw [if_pos (by omega), hk]
  rw [seq_of s5, seq_of s6]
  obtain ⟨E, hE⟩ : ∃ E : List Str → Z.Env, E = fun l => [.im (.str T), .im (.int N), .im (.int (N % 9)), .im (.int p), .im (.str c), .no, .im (.int k), .ow 0 (TS l)] := ⟨_, rfl⟩
  have hEl : ∀ l, E l = [.im (.str T), .im (.int N), .im (.int (N % 9)), .im (.int p), .im (.str c), .no, .im (.int k), .ow 0 (TS l)] := fun l => by rw [hE]
  rw [← hEl W]
  have a1 := slT_to (j := 7) (e := varD 6) (ρ := E W) (l := W) (k := k) (by rw [hEl]; rfl) (by rw [hEl]; rfl) (by omega)
  have a2 := slT_from (j := 7) (e := addD (varD 6) (cD (.int 1))) (ρ := E W) (l := W) (k := k + 1) (by rw [hEl]; rfl) (by rw [hEl]; rfl) (by omega)
  have a2' := slT_from (j := 7) (e := varD 6) (ρ := E W) (l := W) (k := k) (by rw [hEl]; rfl) (by rw [hEl]; rfl) (by omega)
  have a3 := ixT (j := 7) (e := varD 6) (ρ := E W) (l := W) (k := k) (by rw [hEl]; rfl) (by rw [hEl]; rfl) hk2
  have tc := tot_cut W k hk2
  have tt := tot_take W k
  have pl := split_plen T oNl (p := W[k]) (by rw [← eW]; exact List.getElem_mem hk2)
  have mem3 : ∀ l : List Str, (∀ x ∈ l, x ∈ W) → ∀ x ∈ l, PyData.strOk x = true := fun l hl x hx => wok x (hl x hx)
  have te2 : ∀ (l : List Str) (q : Int), tstD (binR eqF (varD 2) (cD (.int q))) (E l) = .ok (decide (N % 9 = q)) := fun l q => by rw [hEl]; simp
  have last : ∀ l : List Str, (∀ x ∈ l, x ∈ W) → tot l + l.length ≤ 2 * m + 3 → Res (2 * m + 3) (fin (retD (joinD (Str.ofString "\n") (varD 7)) (E l))) := fun l h1 h2 => by
    obtain ⟨z, e, hz⟩ := joinTS_ok (c := sNl) (a := varD 7) (ρ := E l) (l := l) (m := 2 * m + 3) (.inr (by rw [hEl]; rfl)) (ok_of _) (mem3 l h1) lNl h2 (by omega)
    exact fin_ret _ e hz
  have asg7 : ∀ (e : ED) (l : List Str), e (E W) = .ok (.fr 0 (TS l)) → asgD 7 e (E W) = .nx (E l) := fun e l he => by
    rw [asg_fr he, hEl, hEl]
    rfl
  by_cases y6 : N % 9 = 6
  · have b1 := addT a1 a3 (by rw [List.length_take, List.length_singleton]; omega)
    have b2 := addT b1 a2' (by rw [List.length_append, List.length_take, List.length_drop, List.length_singleton]; omega)
    rw [seq_ift (by rw [te2]; simp [y6]), seq_of (asg7 _ _ b2), seq_iff (by rw [te2]; simp [y6]), seq_nx, seq_iff (by rw [te2]; simp [y6]), seq_nx]
    refine last _ (fun x hx => ?_) ?_
    · rcases List.mem_append.mp hx with q | q
      · rcases List.mem_append.mp q with q | q
        · exact List.mem_of_mem_take q
        · rw [List.mem_singleton.mp q]; exact List.getElem_mem hk2
      · exact List.mem_of_mem_drop q
    · rw [tot_app, tot_app, tot_one, List.length_append, List.length_append, List.length_take, List.length_drop, List.length_singleton]
      omega
  rw [seq_iff (by rw [te2]; simp [y6]), seq_nx]
  by_cases y7 : N % 9 = 7
  · have b1 := addT a1 a2 (by rw [List.length_take, List.length_drop]; omega)
    rw [seq_ift (by rw [te2]; simp [y7]), seq_of (asg7 _ _ b1), seq_iff (by rw [te2]; simp [y7]), seq_nx]
    refine last _ (fun x hx => ?_) ?_
    · rcases List.mem_append.mp hx with q | q
      · exact List.mem_of_mem_take q
      · exact List.mem_of_mem_drop q
    · rw [tot_app, List.length_append, List.length_take, List.length_drop]
      omega
  rw [seq_iff (by rw [te2]; simp [y7]), seq_nx]
  by_cases y8 : N % 9 = 8
  · have b1 := addT a3 a1 (by rw [List.length_take, List.length_singleton]; omega)
    have b2 := addT b1 a2 (by rw [List.length_append, List.length_take, List.length_drop, List.length_singleton]; omega)
    rw [seq_ift (by rw [te2]; simp [y8]), seq_of (asg7 _ _ b2)]
    refine last _ (fun x hx => ?_) ?_
    · rcases List.mem_append.mp hx with q | q
      · rcases List.mem_append.mp q with q | q
        · rw [List.mem_singleton.mp q]; exact List.getElem_mem hk2
        · exact List.mem_of_mem_take q
      · exact List.mem_of_mem_drop q
    · rw [tot_app, tot_app, tot_one, List.length_append, List.length_append, List.length_take, List.length_drop, List.length_singleton]
      omega
  rw [seq_iff (by rw [te2]; simp [y8]), seq_nx]
  exact last W (fun x hx => hx) (by omega)
/-! #### maths: drawn14b -/
theorem stp_nx' {J : Z.Env → Prop} {o : SO} {ρ : Z.Env} (h : o = .nx ρ) (j : J ρ) : Stp J o := h ▸ stp_nx j
theorem range_getD (rs : List (List Int)) : (List.range rs.length).map (fun i => rs.getD i []) = rs := by
  apply List.ext_getElem
  · simp
  · intro i h1 h2
    simp [List.getD_eq_getElem?_getD, h2]
theorem tot_rows {rs : List (List Int)} (W : WfS 40 rs) (h9 : rs.length ≤ 9) : (textT rs).length ≤ 160 := by
  have j := join_len (s := sNl) (rowsT rs rs.length)
  have l1 : (rowsT rs rs.length).length = rs.length := by simp [rowsT]
  rw [lNl, Nat.mul_one, l1] at j
  have fl := W.len
  have key : ∀ l : List Nat, (∀ i ∈ l, i < 9) → tot (l.map fun i => rowT i (rs.getD i [])) ≤ 3 * l.length + 3 * ((l.map fun i => rs.getD i []).map List.length).sum := by
    intro l
    induction l with
    | nil => intro _; simp [tot]
    | cons i l ih =>
      intro h
      have ih := ih fun j hj => h j (List.mem_cons_of_mem _ hj)
      have h1 := rowT_len (i := i) (r := rs.getD i []) (by have := h i List.mem_cons_self; omega) (fun v hv => by
        by_cases c : i < rs.length
        · rw [List.getD_eq_getElem?_getD, List.getElem?_eq_getElem c] at hv
          have := W.num _ (List.getElem_mem c) v hv
          omega
        · rw [List.getD_eq_getElem?_getD, List.getElem?_eq_none (by omega)] at hv
          simp at hv)
      simp only [tot, List.map_cons, List.sum_cons, List.length_cons] at ih ⊢
      omega
  have k := key (List.range rs.length) fun i hi => by simp at hi; omega
  rw [range_getD, ← List.length_flatten, List.length_range] at k
  have e : tot (rowsT rs rs.length) = tot ((List.range rs.length).map fun i => rowT i (rs.getD i [])) := rfl
  unfold textT
  omega
def oddL : List PD := [.str (Str.ofString ""), .str (Str.ofString "0:\n"), .str (Str.ofString "\n0:"), .str (Str.ofString "0: 07"), .str (Str.ofString "00:"), .str (Str.ofString "0: 40"), .str (Str.ofString "0: -0"), .str (Str.ofString "0:  1"), .str (Str.ofString "0: 1 "), .str (Str.ofString "0:1"), .str (Str.ofString "0: 1 0"), .str (Str.ofString "0: 1 1")]
theorem pick12 (k : Int) (hk : 0 ≤ k ∧ k < 12) : ∃ s : String, atI oddL k = some (.str (Str.ofString s)) ∧ (Str.ofString s).length ≤ 10 := by
  have c : k = 0 ∨ k = 1 ∨ k = 2 ∨ k = 3 ∨ k = 4 ∨ k = 5 ∨ k = 6 ∨ k = 7 ∨ k = 8 ∨ k = 9 ∨ k = 10 ∨ k = 11 := by omega
  rcases c with rfl | rfl | rfl | rfl | rfl | rfl | rfl | rfl | rfl | rfl | rfl | rfl <;> exact ⟨_, rfl, by decide +kernel⟩
def bnd (i : Nat) : Nat := if i = 0 then 160 else if i = 1 then 323 else 649
theorem drawn_eq (ns : List Int) : Res 1000 (f__law_drawn [Sc ns]) := by
  have a22 := at_eq ns 22 (by omega)
  obtain ⟨N, hN⟩ : ∃ N, N = mixed (atS ns 22) 1 := ⟨_, rfl⟩
  unfold f__law_drawn
  rw [den_eq]
  show Res _ (fin (seqD (asgD 1 _) (seqD (ifD _ _ _) (seqD (asgD 3 _) (seqD (forD _ _ _) (retVD 3)))) [.im (Sc ns), .no, .no, .no, .no]))
  have s1 : asgD 1 (callD f__law_mixed (consA (callD f__law_at (consA (varD 0) (consA (cD (.int 22)) nilA))) (consA (cD (.int 1)) nilA))) [.im (Sc ns), .no, .no, .no, .no] = .nx [.im (Sc ns), .im (.int N), .no, .no, .no] := by
    refine asg_im ?_
    rw [hN]
    exact call2 (call2 (r1 := .im (Sc ns)) (r2 := .im (.int 22)) rfl rfl rfl rfl a22 rfl) rfl rfl rfl (mixed_eq _ _) rfl
  rw [seq_of s1]
  by_cases h1 : N % 8 = 1
  · obtain ⟨s, e1, e2⟩ := pick12 (N / 8 % 12) (by omega)
    have s2 : asgD 2 (lstD (consA (cD (.str (Str.ofString ""))) (consA (cD (.str (Str.ofString "0:\n"))) (consA (cD (.str (Str.ofString "\n0:"))) (consA (cD (.str (Str.ofString "0: 07"))) (consA (cD (.str (Str.ofString "00:"))) (consA (cD (.str (Str.ofString "0: 40"))) (consA (cD (.str (Str.ofString "0: -0"))) (consA (cD (.str (Str.ofString "0:  1"))) (consA (cD (.str (Str.ofString "0: 1 "))) (consA (cD (.str (Str.ofString "0:1"))) (consA (cD (.str (Str.ofString "0: 1 0"))) (consA (cD (.str (Str.ofString "0: 1 1"))) nilA))))))))))))) [.im (Sc ns), .im (.int N), .no, .no, .no] = .nx [.im (Sc ns), .im (.int N), .ow 0 oddL, .no, .no] := rfl
    rw [seq_ift (by simp [h1]), seq_seq, seq_of s2, seq_ret]
    have e3 : ixD (varD 2) (binR modI (binR divI (varD 1) (cD (.int 8))) (cD (.int 12))) [.im (Sc ns), .im (.int N), .ow 0 oddL, .no, .no] = .ok (.im (.str (Str.ofString s))) :=
      ix_ok (r1 := .ro 0 oddL) (k := N / 8 % 12) rfl (by simp) (by show (atI oddL _).map R.im = _; rw [e1]; rfl)
    refine ⟨_, ?_, ok_of s, by omega⟩
    unfold retD
    rw [e3]
    rfl
  · rw [seq_iff (by simp [h1]), seq_nx]
    obtain ⟨h, hh⟩ : ∃ h : Nat, 1 + atS ns 0 % 9 = (h : Int) := ⟨(1 + atS ns 0 % 9).toNat, by omega⟩
    have pe := parts_eq ns h hh (by omega) (by omega)
    have W := parts_wf ns h
    have pl := parts_len ns h
    obtain ⟨rs, ers⟩ : ∃ rs, rs = partsOf ns h := ⟨_, rfl⟩
    rw [← ers] at pe W pl
    have te := text_eq (rs := rs) ⟨by omega, fun r hr => by have := W.slen hr; omega, fun r hr v hv => by have := W.num r hr v hv; omega⟩
    have t0 : TOk (bnd 0) (textT rs) := ⟨ok_text rs, tot_rows W (by omega)⟩
    have s3 : asgD 3 (callD f__law_text (consA (callD f__law_parts (consA (varD 0) nilA)) nilA)) [.im (Sc ns), .im (.int N), .no, .no, .no] = .nx [.im (Sc ns), .im (.int N), .no, .im (.str (textT rs)), .no] := by
      have c1 : callD f__law_parts (consA (varD 0) nilA) [.im (Sc ns), .im (.int N), .no, .no, .no] = .ok (.fr 1 (T2 rs)) := by
        simp only [Sc] at pe
        simp [pe]
      refine asg_im (call_1 c1 (d1 := LL rs) ?_ te rfl)
      have := dat1_map rs
      show PyData.list (@List.map (Z.Ty 1) PD (Ty.dat 1) (T2 rs)) = _
      rw [this]
    rw [seq_of s3]
    obtain ⟨n, hn⟩ : ∃ n : Nat, N / 8 % 3 = (n : Int) := ⟨(N / 8 % 3).toNat, by omega⟩
    have hn2 : n ≤ 2 := by omega
    unfold Res
    suffices hs : ∃ z : Str, TOk 1000 z ∧ ∃ x, forD (rg1D (binR modI (binR divI (varD 1) (cD (.int 8))) (cD (.int 3)))) (.nm 4) (asgD 3 (callD f__law_changed (consA (varD 3) (consA (binR divI (callD f__law_mixed (consA (callD f__law_at (consA (varD 0) (consA (addD (cD (.int 23)) (varD 4)) nilA))) (consA (varD 4) nilA))) (cD (.int 2))) nilA)))) [.im (Sc ns), .im (.int N), .no, .im (.str (textT rs)), .no] = .nx [.im (Sc ns), .im (.int N), .no, .im (.str z), x] by
      obtain ⟨z, hz, x, e⟩ := hs
      rw [seq_of e]
      exact ⟨z, rfl, hz⟩
    obtain ⟨ρ', e, z, x, e2, hz⟩ := for_nm (fun i ρ => ∃ z x, ρ = [.im (Sc ns), .im (.int N), .no, .im (.str z), x] ∧ TOk (bnd i) z) (List.range n) (fun (i : Nat) => PyData.int i) (j := 4) (s := rg1D (binR modI (binR divI (varD 1) (cD (.int 8))) (cD (.int 3)))) (body := asgD 3 (callD f__law_changed (consA (varD 3) (consA (binR divI (callD f__law_mixed (consA (callD f__law_at (consA (varD 0) (consA (addD (cD (.int 23)) (varD 4)) nilA))) (consA (varD 4) nilA))) (cD (.int 2))) nilA)))) (ρ := [.im (Sc ns), .im (.int N), .no, .im (.str (textT rs)), .no]) (by
      have b : (-100000 : Int) ≤ (n : Int) ∧ (n : Int) ≤ 100000 := by omega
      have : (rangeL 0 (n : Int)).map PyData.int = (List.range n).map fun (i : Nat) => PyData.int (i : Int) := rg_all n
      simp [hn, b, this]) ⟨_, _, rfl, t0⟩ (by
      rintro i hi ρ ⟨z, x, rfl, hz⟩
      have hi' : i < n := by simpa using hi
      have hb : bnd i ≤ 400 := by unfold bnd; split <;> (try split) <;> omega
      obtain ⟨z2, e2, hz2⟩ := changed_eq hz hb (mixed (atS ns (23 + i)) i / 2)
      have a23 := at_eq ns (23 + (i : Int)) (by omega)
      rw [show (23 + (i : Int)).toNat = 23 + i by omega] at a23
      have hgi : (List.range n)[i] = i := by simp
      refine stp_nx' ?_ ⟨z2, .im (.int i), rfl, hz2.mono ?_⟩
      · rw [hgi]
        exact asg_im (call2 (r1 := .im (.str z)) rfl (cmp_ok (call2 (call2 (r1 := .im (Sc ns)) (r2 := .im (.int (23 + i))) rfl rfl rfl rfl a23 rfl) (r2 := .im (.int i)) rfl rfl rfl (mixed_eq _ _) rfl) (r2 := .im (.int 2)) rfl rfl rfl (d := .int (mixed (atS ns (23 + i)) i / 2)) (by simp)) rfl rfl e2 rfl)
      · have c2 : i = 0 ∨ i = 1 := by omega
        rcases c2 with rfl | rfl <;> decide)
    rw [List.length_range] at hz
    have c3 : n = 0 ∨ n = 1 ∨ n = 2 := by omega
    have hz3 : TOk 1000 z := hz.mono (by rcases c3 with rfl | rfl | rfl <;> decide)
    exact ⟨z, hz3, x, by rw [← e2]; exact e⟩
/-! #### maths: k14 -/
def t1S : Str := Str.ofString "0:"
def triedL : List PD := [.none, .int 5, .list [], .list [.str t1S], .bool true, .dict [], .tuple [.str t1S]]
theorem pick7 (k : Int) (hk : 0 ≤ k ∧ k < 7) : ∃ d, atI triedL k = some d ∧ f_read [d] = .ex "BadNote" := by
  have e : ∀ d : PD, tyP d ≠ "str" → f_read [d] = .ex "BadNote" := fun d hd => by
    unfold f_read
    rw [den_eq]
    show fin (seqD (ifD _ _ _) _ [.im d, .no, .no, .no, .no, .no]) = _
    rw [seq_ift (by simp [hd])]
    rfl
  have c : k = 0 ∨ k = 1 ∨ k = 2 ∨ k = 3 ∨ k = 4 ∨ k = 5 ∨ k = 6 := by omega
  rcases c with rfl | rfl | rfl | rfl | rfl | rfl | rfl <;> exact ⟨_, rfl, e _ (by simp [tyP])⟩
theorem tryU_r {f : List PD → Out R} {a : AD} {i : Nat} {su : String → Option (Addr → SD)} {ρ : Z.Env} {ds : List PD} {c : String} {s : Addr → SD} {r : R} (h1 : a ρ = .ok (ds.map R.im)) (h2 : f ds = .ex c) (h3 : su c = some s) (h4 : ∀ b : Addr, s b (ρ.set i (.vv (.ref b))) = .rt r) :
    tryU f a i su ρ = .rt r := by
  have e1 : (ds.map R.im).all R.isIm = true := List.all_eq_true.mpr fun x hx => by
    obtain ⟨d, _, rfl⟩ := List.mem_map.mp hx
    rfl
  have e2 : (ds.map R.im).map R.dat = ds := by rw [List.map_map]; exact List.map_id _
  unfold tryU
  rw [h1]
  simp only [noX, e1, if_true, e2, h2, h3]
  rw [if_pos (fun b => (h4 b).trans (h4 0).symm), h4]
theorem refused_eq {d : PD} (h : f_read [d] = .ex "BadNote") : f__law_refused [d] = .ok (.im (.bool true)) := by
  unfold f__law_refused
  rw [den_eq]
  show fin (seqD (tryU _ _ _ _) _ [.im d, .no]) = _
  rw [seq_rt_ (tryU_r (ds := [d]) (r := .im (.bool true)) rfl h rfl (fun b => by
    simp [isED]))]
  rfl
theorem call_i {f : List PD → Out R} {a : ED} {ρ : Z.Env} {d : PD} {r : R} (h1 : a ρ = .ok (.im d)) (hf : f [d] = .ok r) : callD f (consA a nilA) ρ = .ok r := by
  unfold callD
  show ((a ρ).bind fun r => (Out.ok [] : Out (List R)).bind fun rs => .ok (r.fz :: rs)).bind _ = _
  rw [h1]
  show (match f [d] with
  | Out.ok r => if [R.im d].all R.isIm then Out.ok r else if r.flat then Out.ok r else Out.st
  | Out.ex c => Out.ex c
  | Out.st => Out.st) = _
  rw [hf]
  rfl
theorem not_ok {t : TD} {ρ : Z.Env} {b : Bool} (h : t ρ = .ok b) : notT t ρ = .ok (!b) := by
  unfold notT
  rw [h]
  rfl
theorem or_ff {a b : TD} {ρ : Z.Env} (h1 : a ρ = .ok false) (h2 : b ρ = .ok false) : orT a b ρ = .ok false := by
  unfold orT
  rw [h1]
  exact h2
theorem isi_int_bool (v : Int) : isiF "bool" (.int v) = some (.bool false) := by
  have : kitB "int" "bool" = some false := by decide +kernel
  show (kitB "int" "bool").map PyData.bool = _
  rw [this]
  rfl
theorem isi_int_int (v : Int) : isiF "int" (.int v) = some (.bool true) := by
  have : kitB "int" "int" = some true := by decide +kernel
  show (kitB "int" "int").map PyData.bool = _
  rw [this]
  rfl
theorem isi_list_list (l : List PD) : isiF "list" (.list l) = some (.bool true) := by
  have : kitB "list" "list" = some true := by decide +kernel
  show (kitB "list" "list").map PyData.bool = _
  rw [this]
  rfl
theorem appAllC_ok {i j c : Nat} {t : TD} {d : PD} {ρ : Z.Env} {l : Z.Ty 2} (hi : ρ[i]? = some (.ow 1 l)) (hc : (∀ u ∈ (show List (List PD) from l), u.length ≤ 1000 ∧ ∀ x ∈ u, t (Tn ρ i j c (.im x)) = .ok false) ∧ (i ≠ j ∧ i ≠ c ∧ j ≠ c) ∧ j < ρ.length ∧ c < ρ.length) :
    appAllC i j c t d ρ = .nx (((ρ.set c .no).set j .no).set i (.ow 1 ((show List (List PD) from l).map fun u => u ++ [d]))) := by
  unfold appAllC
  rw [hi]
  exact if_pos hc
theorem neF_LS (a : List (List Int)) : neF (LL a) (LL a) = some (.bool false) := by rw [neF_LL]; simp
theorem law_true (ns : List Int) (hns : ns.length ≤ 63) : f_law [.dict [(.none, .list (ns.map PyData.int))]] = .ok (.im (.bool true)) := by
  have a26 := at_eq ns 26 (by omega)
  obtain ⟨d, d1, d2⟩ := pick7 (atS ns 26 % 7) (by omega)
  have r0 := refused_eq d2
  obtain ⟨t, dr, tk⟩ := drawn_eq ns
  have du := due_eq tk.ok tk.len
  have re := read_eq tk.ok tk.len
  rw [ready] at re
  unfold f_law
  rw [den_eq]
  show fin (seqD (ifD _ _ _) (seqD (asgD 1 _) (seqD (asgD 2 _) (seqD (ifD _ _ _) (seqD (asgD 3 _) (seqD (ifD _ _ _) (seqD (appAllC 3 4 5 _ _) (retD _))))))) [.im (Sc ns), .no, .no, .no, .no, .no]) = _
  have t0 : ixD (lstD (consA (cD .none) (consA (cD (.int 5)) (consA (lstD nilA) (consA (lstD (consA (cD (.str (Str.ofString "0:"))) nilA)) (consA (cD (.bool true)) (consA empD (consA (tupD (consA (cD (.str (Str.ofString "0:"))) nilA)) nilA)))))))) (binR modI (callD f__law_at (consA (varD 0) (consA (cD (.int 26)) nilA))) (cD (.int 7))) [.im (Sc ns), .no, .no, .no, .no, .no] = .ok (.im d) :=
    ix_ok (r1 := .fr 0 triedL) (k := atS ns 26 % 7) rfl (cmp_ok (call2 (r1 := .im (Sc ns)) (r2 := .im (.int 26)) rfl rfl rfl rfl a26 rfl) (r2 := .im (.int 7)) rfl rfl rfl (d := .int (atS ns 26 % 7)) (by simp)) (by show (atI triedL _).map R.im = _; rw [d1]; rfl)
  have t1 : callD f__law_refused (consA (ixD (lstD (consA (cD .none) (consA (cD (.int 5)) (consA (lstD nilA) (consA (lstD (consA (cD (.str (Str.ofString "0:"))) nilA)) (consA (cD (.bool true)) (consA empD (consA (tupD (consA (cD (.str (Str.ofString "0:"))) nilA)) nilA)))))))) (binR modI (callD f__law_at (consA (varD 0) (consA (cD (.int 26)) nilA))) (cD (.int 7)))) nilA) [.im (Sc ns), .no, .no, .no, .no, .no] = .ok (.im (.bool true)) := call_1 t0 rfl r0 rfl
  rw [seq_iff (not_ok (tst_ok t1)), seq_nx]
  have s1 : asgD 1 (callD f__law_drawn (consA (varD 0) nilA)) [.im (Sc ns), .no, .no, .no, .no, .no] = .nx [.im (Sc ns), .im (.str t), .no, .no, .no, .no] := asg_im (call_1 (r1 := .im (Sc ns)) rfl rfl dr rfl)
  rw [seq_of s1]
  by_cases hb : dueB t = true
  · rw [if_pos hb] at du re
    have s2 : asgD 2 (callD f__law_due (consA (varD 1) nilA)) [.im (Sc ns), .im (.str t), .no, .no, .no, .no] = .nx [.im (Sc ns), .im (.str t), .ow 0 (LS (heldT t)), .no, .no, .no] := asg_fr (call_i (d := .str t) rfl du)
    have s3 : asgD 3 (callD f_read (consA (varD 1) nilA)) [.im (Sc ns), .im (.str t), .ow 0 (LS (heldT t)), .no, .no, .no] = .nx [.im (Sc ns), .im (.str t), .ow 0 (LS (heldT t)), .ow 1 (T2 (heldT t)), .no, .no] := asg_fr (call_i (d := .str t) rfl re)
    have dL : PyData.list (LS (heldT t)) = LL (heldT t) := rfl
    have dT : (R.ro 1 (T2 (heldT t))).dat = LL (heldT t) := by
      show PyData.list (@List.map (Z.Ty 1) PD (Ty.dat 1) (T2 (heldT t))) = _
      rw [dat1_map]
    have q : appAllC 3 4 5 (orT (tstD (isiD "bool" (varD 5))) (notT (tstD (isiD "int" (varD 5))))) (.int (-1)) [.im (Sc ns), .im (.str t), .ow 0 (LS (heldT t)), .ow 1 (T2 (heldT t)), .no, .no] = .nx [.im (Sc ns), .im (.str t), .ow 0 (LS (heldT t)), .ow 1 ((heldT t).map fun r => T1 r ++ [PyData.int (-1)]), .no, .no] := by
      have hc : (∀ u ∈ (show List (List PD) from T2 (heldT t)), u.length ≤ 1000 ∧ ∀ x ∈ u, (orT (tstD (isiD "bool" (varD 5))) (notT (tstD (isiD "int" (varD 5))))) (Tn [.im (Sc ns), .im (.str t), .ow 0 (LS (heldT t)), .ow 1 (T2 (heldT t)), .no, .no] 3 4 5 (.im x)) = .ok false) ∧ ((3 : Nat) ≠ 4 ∧ (3 : Nat) ≠ 5 ∧ (4 : Nat) ≠ 5) ∧ 4 < 6 ∧ 5 < 6 := by
        refine ⟨fun u hu => ?_, by decide, by decide, by decide⟩
        obtain ⟨r, hr, rfl⟩ := List.mem_map.mp (show u ∈ (heldT t).map fun r => r.map PyData.int from hu)
        refine ⟨?_, fun x hx => ?_⟩
        · have h1 := heldT_flat t
          have h2 : r.length ≤ (heldT t).flatten.length := by
            rw [List.length_flatten]
            exact mem_le_sum List.length (heldT t) r hr
          have := tk.len
          rw [List.length_map]
          omega
        · obtain ⟨v, _, rfl⟩ := List.mem_map.mp hx
          have k1 : isiF "bool" (.int v) = some (.bool false) := isi_int_bool v
          have k2 : isiF "int" (.int v) = some (.bool true) := isi_int_int v
          exact or_ff (tst_ok (by simp [Tn, k1])) (not_ok (b := true) (tst_ok (by simp [Tn, k2])))
      rw [appAllC_ok (l := T2 (heldT t)) rfl hc]
      refine congrArg SO.nx ?_
      show [Ent.im (Sc ns), .im (.str t), .ow 0 (LS (heldT t)), .ow 1 _, .no, .no] = _
      refine congrArg (fun z => [Ent.im (Sc ns), .im (.str t), .ow 0 (LS (heldT t)), Ent.ow 1 z, .no, .no]) ?_
      show ((heldT t).map fun r => r.map PyData.int).map (fun u => u ++ [PyData.int (-1)]) = _
      rw [List.map_map]
      rfl
    rw [seq_of s2, seq_iff (tst_ok (cmp_ok (r1 := .ro 0 (LS (heldT t))) (r2 := .im .none) rfl rfl rfl rfl rfl)), seq_nx, seq_of s3, seq_iff (or_ff (not_ok (b := true) (tst_ok (by simp [isi_list_list]))) (tst_ok (cmp_ok (r1 := .ro 1 (T2 (heldT t))) (r2 := .ro 0 (LS (heldT t))) rfl rfl dT rfl (by rw [e_datr0, dL]; exact neF_LS _)))), seq_nx, seq_of q]
    have e8 : callD f_read (consA (varD 1) nilA) [.im (Sc ns), .im (.str t), .ow 0 (LS (heldT t)), .ow 1 ((heldT t).map fun r => T1 r ++ [PyData.int (-1)]), .no, .no] = .ok (.fr 1 (T2 (heldT t))) := call_i (d := .str t) rfl re
    have e9 : binR eqF (callD f_read (consA (varD 1) nilA)) (varD 2) [.im (Sc ns), .im (.str t), .ow 0 (LS (heldT t)), .ow 1 ((heldT t).map fun r => T1 r ++ [PyData.int (-1)]), .no, .no] = .ok (.im (.bool true)) :=
      cmp_ok (r2 := .ro 0 (LS (heldT t))) e8 rfl dT rfl (by rw [e_datr0, dL, eqF_LL]; simp)
    unfold retD
    rw [e9]
    rfl
  · rw [if_neg hb] at du re
    have s2 : asgD 2 (callD f__law_due (consA (varD 1) nilA)) [.im (Sc ns), .im (.str t), .no, .no, .no, .no] = .nx [.im (Sc ns), .im (.str t), .im .none, .no, .no, .no] := asg_im (call_i (d := .str t) rfl du)
    have r2 := refused_eq re
    have e9 : callD f__law_refused (consA (varD 1) nilA) [.im (Sc ns), .im (.str t), .im .none, .no, .no, .no] = .ok (.im (.bool true)) := call_1 (r1 := .im (.str t)) rfl rfl r2 rfl
    rw [seq_of s2, seq_ift (tst_ok (cmp_ok (r1 := .im .none) (r2 := .im .none) rfl rfl rfl rfl rfl))]
    rw [seq_rt_ (r := .im (.bool true)) (by unfold retD; rw [e9]; rfl)]
    rfl
end
end P

/-! ## K14H -/
set_option Elab.async false
set_option linter.all false
set_option maxRecDepth 100000
set_option maxHeartbeats 0

namespace P
open PySem PySem.Spec PyProof.Rows L2 Z
/-! ### the head -/
def D_is_number_below : He.DefD := ⟨("is_number_below", none), "is_number_below", "is_number_below", defArgs s_is_number_below, defBody s_is_number_below, defScope s_is_number_below, [], []⟩
def D_is_list_below : He.DefD := ⟨("is_list_below", none), "is_list_below", "is_list_below", defArgs s_is_list_below, defBody s_is_list_below, defScope s_is_list_below, [], []⟩
def D_need_parted : He.DefD := ⟨("need_parted", none), "need_parted", "need_parted", defArgs s_need_parted, defBody s_need_parted, defScope s_need_parted, [], []⟩
def D_things_of_row : He.DefD := ⟨("things_of_row", none), "things_of_row", "things_of_row", defArgs s_things_of_row, defBody s_things_of_row, defScope s_things_of_row, [], []⟩
def D_read : He.DefD := ⟨("read", none), "read", "read", defArgs s_read, defBody s_read, defScope s_read, [], []⟩
def D__law_at : He.DefD := ⟨("_law_at", none), "_law_at", "_law_at", defArgs s__law_at, defBody s__law_at, defScope s__law_at, [], []⟩
def D__law_mixed : He.DefD := ⟨("_law_mixed", none), "_law_mixed", "_law_mixed", defArgs s__law_mixed, defBody s__law_mixed, defScope s__law_mixed, [], []⟩
def D__law_parts : He.DefD := ⟨("_law_parts", none), "_law_parts", "_law_parts", defArgs s__law_parts, defBody s__law_parts, defScope s__law_parts, [], []⟩
def D__law_text : He.DefD := ⟨("_law_text", none), "_law_text", "_law_text", defArgs s__law_text, defBody s__law_text, defScope s__law_text, [], []⟩
def D__law_sign : He.DefD := ⟨("_law_sign", none), "_law_sign", "_law_sign", defArgs s__law_sign, defBody s__law_sign, defScope s__law_sign, [], []⟩
def D__law_changed : He.DefD := ⟨("_law_changed", none), "_law_changed", "_law_changed", defArgs s__law_changed, defBody s__law_changed, defScope s__law_changed, [], []⟩
def D__law_drawn : He.DefD := ⟨("_law_drawn", none), "_law_drawn", "_law_drawn", defArgs s__law_drawn, defBody s__law_drawn, defScope s__law_drawn, [], []⟩
def D__law_due : He.DefD := ⟨("_law_due", none), "_law_due", "_law_due", defArgs s__law_due, defBody s__law_due, defScope s__law_due, [], []⟩
def D__law_refused : He.DefD := ⟨("_law_refused", none), "_law_refused", "_law_refused", defArgs s__law_refused, defBody s__law_refused, defScope s__law_refused, [], []⟩
def D_law : He.DefD := ⟨("law", none), "law", "law", defArgs s_law, defBody s_law, defScope s_law, [], []⟩
def fn : List He.DefD := [D_is_number_below, D_is_list_below, D_need_parted, D_things_of_row, D_read, D__law_at, D__law_mixed, D__law_parts, D__law_text, D__law_sign, D__law_changed, D__law_drawn, D__law_due, D__law_refused, D_law]
def xs : List Xf := [xf_BadNote, xf_BadShares]
def fa : List He.Fa := [.glo "is_number_below", .glo "is_list_below", .glo "need_parted", .glo "things_of_row", .glo "read", .glo "_law_at", .glo "_law_mixed", .glo "_law_parts", .glo "_law_text", .glo "_law_sign", .glo "_law_changed", .glo "_law_drawn", .glo "_law_due", .glo "_law_refused", .glo "law", .glo "DealError", .glo "BadHeir", .glo "BadOrder", .glo "BadRing", .glo "BadTable", .glo "BadThing", .glo "Full", .free "type", .free "int", .free "list", .free "all", .free "sorted", .free "len", .free "set", .free "range", .free "str", .free "enumerate", .free "max", .free "isinstance", .free "ValueError", .free "bool", .int "MOST_THINGS" 40, .int "MOST_HEIRS" 8, .glo "BadShares", .exc "BadShares", .glo "BadNote", .exc "BadNote"]
abbrev R0 : PySem.W.OpenRow := PySem.W.OpenLaw.row PySem.Challenge.rw_thingdeal_k14_read
abbrev hk : PySem.W.Hook := hookX 4 fa fn xs
def ob (s : PySem.W.SharedT) : He.AlD × Bool := obsXG 4 fa fn xs (HandSHeadRun.getT s)
theorem ob_eq (s : PySem.W.SharedT) : ob s = hk.obs s.abs := obsXG_eq (HandSHeadRun.getT_eq s)
def nm0 : List PySem.Str := ["DealError", "BadTable", "BadShares", "BadHeir", "BadThing", "BadRing", "BadOrder", "Full", "BadNote", "MOST_HEIRS", "MOST_THINGS", "is_number_below", "is_list_below", "need_parted", "things_of_row", "read", "_law_at", "_law_mixed", "_law_parts", "_law_text", "_law_sign", "_law_changed", "_law_drawn", "_law_due", "_law_refused"]
def nms : List PySem.Str := nm0
theorem run (w : World) : HandSHeadRun.RunEq R0 (PySem.W.view R0.prog [29]) hk ob 8000 nms w := by
  intro os
  kernel_rfl
theorem facts {P : Program} {w : World} {K : PySem.W.Frag} {h : Heap} {mg : Str → Option Value} {f : Addr} (X : K.In h) (G : h.Ns mainGlobals mg) (hfa : mg ("law" : Str) = some (.ref f)) (c : He.SaysD fa fn K) (hx : ∀ f ∈ xs, XfOk K f) :
    ∃ fd : FuncData, (∀ (s : Shared) (v : Value), BindsTo s fd ⟨[v], []⟩ [("_law_script", v)]) ∧ ∀ base : Heap, K.In base → base.Ns mainGlobals mg → FnOk P w K mg base (L2.CX P w) 6 f fd ["_law_script"] (SpF K (cm K) 1 f_law) := by
  obtain ⟨fd_is_number_below, F_is_number_below⟩ := c.def_ 0 (d := D_is_number_below) rfl
  obtain ⟨fd_is_list_below, F_is_list_below⟩ := c.def_ 1 (d := D_is_list_below) rfl
  obtain ⟨fd_need_parted, F_need_parted⟩ := c.def_ 2 (d := D_need_parted) rfl
  obtain ⟨fd_things_of_row, F_things_of_row⟩ := c.def_ 3 (d := D_things_of_row) rfl
  obtain ⟨fd_read, F_read⟩ := c.def_ 4 (d := D_read) rfl
  obtain ⟨fd__law_at, F__law_at⟩ := c.def_ 5 (d := D__law_at) rfl
  obtain ⟨fd__law_mixed, F__law_mixed⟩ := c.def_ 6 (d := D__law_mixed) rfl
  obtain ⟨fd__law_parts, F__law_parts⟩ := c.def_ 7 (d := D__law_parts) rfl
  obtain ⟨fd__law_text, F__law_text⟩ := c.def_ 8 (d := D__law_text) rfl
  obtain ⟨fd__law_sign, F__law_sign⟩ := c.def_ 9 (d := D__law_sign) rfl
  obtain ⟨fd__law_changed, F__law_changed⟩ := c.def_ 10 (d := D__law_changed) rfl
  obtain ⟨fd__law_drawn, F__law_drawn⟩ := c.def_ 11 (d := D__law_drawn) rfl
  obtain ⟨fd__law_due, F__law_due⟩ := c.def_ 12 (d := D__law_due) rfl
  obtain ⟨fd__law_refused, F__law_refused⟩ := c.def_ 13 (d := D__law_refused) rfl
  obtain ⟨fd_law, F_law⟩ := c.def_ 14 (d := D_law) rfl
  have g_is_number_below := He.glo_ok X G (c.fact 0 (f := .glo "is_number_below") rfl)
  have g_is_list_below := He.glo_ok X G (c.fact 1 (f := .glo "is_list_below") rfl)
  have g_need_parted := He.glo_ok X G (c.fact 2 (f := .glo "need_parted") rfl)
  have g_things_of_row := He.glo_ok X G (c.fact 3 (f := .glo "things_of_row") rfl)
  have g_read := He.glo_ok X G (c.fact 4 (f := .glo "read") rfl)
  have g__law_at := He.glo_ok X G (c.fact 5 (f := .glo "_law_at") rfl)
  have g__law_mixed := He.glo_ok X G (c.fact 6 (f := .glo "_law_mixed") rfl)
  have g__law_parts := He.glo_ok X G (c.fact 7 (f := .glo "_law_parts") rfl)
  have g__law_text := He.glo_ok X G (c.fact 8 (f := .glo "_law_text") rfl)
  have g__law_sign := He.glo_ok X G (c.fact 9 (f := .glo "_law_sign") rfl)
  have g__law_changed := He.glo_ok X G (c.fact 10 (f := .glo "_law_changed") rfl)
  have g__law_drawn := He.glo_ok X G (c.fact 11 (f := .glo "_law_drawn") rfl)
  have g__law_due := He.glo_ok X G (c.fact 12 (f := .glo "_law_due") rfl)
  have g__law_refused := He.glo_ok X G (c.fact 13 (f := .glo "_law_refused") rfl)
  have g_law := He.glo_ok X G (c.fact 14 (f := .glo "law") rfl)
  have g_DealError := He.glo_ok X G (c.fact 15 (f := .glo "DealError") rfl)
  have g_BadHeir := He.glo_ok X G (c.fact 16 (f := .glo "BadHeir") rfl)
  have g_BadOrder := He.glo_ok X G (c.fact 17 (f := .glo "BadOrder") rfl)
  have g_BadRing := He.glo_ok X G (c.fact 18 (f := .glo "BadRing") rfl)
  have g_BadTable := He.glo_ok X G (c.fact 19 (f := .glo "BadTable") rfl)
  have g_BadThing := He.glo_ok X G (c.fact 20 (f := .glo "BadThing") rfl)
  have g_Full := He.glo_ok X G (c.fact 21 (f := .glo "Full") rfl)
  have h_type := He.free_ok X G (c.fact 22 (f := .free "type") rfl)
  have h_int := He.free_ok X G (c.fact 23 (f := .free "int") rfl)
  have h_list := He.free_ok X G (c.fact 24 (f := .free "list") rfl)
  have h_all := He.free_ok X G (c.fact 25 (f := .free "all") rfl)
  have h_sorted := He.free_ok X G (c.fact 26 (f := .free "sorted") rfl)
  have h_len := He.free_ok X G (c.fact 27 (f := .free "len") rfl)
  have h_set := He.free_ok X G (c.fact 28 (f := .free "set") rfl)
  have h_range := He.free_ok X G (c.fact 29 (f := .free "range") rfl)
  have h_str := He.free_ok X G (c.fact 30 (f := .free "str") rfl)
  have h_enumerate := He.free_ok X G (c.fact 31 (f := .free "enumerate") rfl)
  have h_max := He.free_ok X G (c.fact 32 (f := .free "max") rfl)
  have h_isinstance := He.free_ok X G (c.fact 33 (f := .free "isinstance") rfl)
  have h_ValueError := He.free_ok X G (c.fact 34 (f := .free "ValueError") rfl)
  have h_bool := He.free_ok X G (c.fact 35 (f := .free "bool") rfl)
  obtain ⟨t_MOST_THINGS, hc_MOST_THINGS⟩ := He.int_ok X G (c.fact 36 (f := .int "MOST_THINGS" 40) rfl)
  obtain ⟨t_MOST_HEIRS, hc_MOST_HEIRS⟩ := He.int_ok X G (c.fact 37 (f := .int "MOST_HEIRS" 8) rfl)
  have e_BadShares : ExF K mg "BadShares" := ⟨He.glo_ok X G (c.fact 38 (f := .glo "BadShares") rfl), He.exc_ok (c.fact 39 (f := .exc "BadShares") rfl)⟩
  have g_BadShares := e_BadShares.1
  have e_BadNote : ExF K mg "BadNote" := ⟨He.glo_ok X G (c.fact 40 (f := .glo "BadNote") rfl), He.exc_ok (c.fact 41 (f := .exc "BadNote") rfl)⟩
  have g_BadNote := e_BadNote.1
  have x_BadNote : XfOk K xf_BadNote := hx _ (List.mem_cons_self)
  have x_BadShares : XfOk K xf_BadShares := hx _ (List.mem_cons_of_mem _ (List.mem_cons_self))
  have e := hfa.symm.trans g_law
  cases e
  have b := FunD.bindsA (ps := ["_law_script"]) F_law fun _ _ _ _ _ _ us hl => match us, hl with | [_], _ => rfl
  refine ⟨fd_law, fun s v => b s [v] rfl, fun base _ _ => ?_⟩
  have M_is_number_below : FnOk P w K mg base (L2N.CX P w) 1 _ fd_is_number_below _ (SpF K (cm K) 2 f_is_number_below) := m_is_number_below F_is_number_below h_type h_int
  have G_is_number_below : Cal P w K mg base (cm K) "is_number_below" 1 2 ["value", "limit"] f_is_number_below := ⟨_, fd_is_number_below, M_is_number_below, g_is_number_below, F_is_number_below.kp, FunD.bindsN F_is_number_below fun _ _ _ _ _ _ us hl => match us, hl with | [_, _], _ => rfl⟩
  have M_is_list_below : FnOk P w K mg base (L2N.CX P w) 2 _ fd_is_list_below _ (SpF K (cm K) 2 f_is_list_below) := m_is_list_below F_is_list_below h_type h_list h_all G_is_number_below
  have G_is_list_below : Cal P w K mg base (cm K) "is_list_below" 2 2 ["value", "limit"] f_is_list_below := ⟨_, fd_is_list_below, M_is_list_below, g_is_list_below, F_is_list_below.kp, FunD.bindsN F_is_list_below fun _ _ _ _ _ _ us hl => match us, hl with | [_, _], _ => rfl⟩
  have M_need_parted : FnOk P w K mg base (L2N.CX P w) 3 _ fd_need_parted _ (SpF K (cm K) 2 f_need_parted) := m_need_parted F_need_parted h_sorted h_len h_set e_BadShares G_is_list_below
  have G_need_parted : Cal P w K mg base (cm K) "need_parted" 3 2 ["shares", "many"] f_need_parted := ⟨_, fd_need_parted, M_need_parted, g_need_parted, F_need_parted.kp, FunD.bindsN F_need_parted fun _ _ _ _ _ _ us hl => match us, hl with | [_, _], _ => rfl⟩
  have M_things_of_row : FnOk P w K mg base (L2N.CX P w) 1 _ fd_things_of_row _ (SpF K (cm K) 2 f_things_of_row) := m_things_of_row F_things_of_row h_range h_str hc_MOST_THINGS e_BadNote
  have G_things_of_row : Cal P w K mg base (cm K) "things_of_row" 1 2 ["row", "heir"] f_things_of_row := ⟨_, fd_things_of_row, M_things_of_row, g_things_of_row, F_things_of_row.kp, FunD.bindsN F_things_of_row fun _ _ _ _ _ _ us hl => match us, hl with | [_, _], _ => rfl⟩
  have M_read : FnOk P w K mg base (L2.CX P w) 4 _ fd_read _ (SpF K (cm K) 1 f_read) := m_read F_read h_type h_str h_len h_enumerate hc_MOST_HEIRS hc_MOST_THINGS e_BadNote e_BadShares g_BadShares x_BadShares G_things_of_row G_need_parted
  have G_read : CalL P w K mg base (cm K) "read" 4 1 ["text"] f_read := ⟨_, fd_read, M_read, g_read, F_read.kp, FunD.bindsN F_read fun _ _ _ _ _ _ us hl => match us, hl with | [_], _ => rfl⟩
  have M__law_at : FnOk P w K mg base (L2N.CX P w) 1 _ fd__law_at _ (SpF K (cm K) 2 f__law_at) := m__law_at F__law_at h_len
  have G__law_at : Cal P w K mg base (cm K) "_law_at" 1 2 ["_law_script", "_law_k"] f__law_at := ⟨_, fd__law_at, M__law_at, g__law_at, F__law_at.kp, FunD.bindsN F__law_at fun _ _ _ _ _ _ us hl => match us, hl with | [_, _], _ => rfl⟩
  have M__law_mixed : FnOk P w K mg base (L2N.CX P w) 1 _ fd__law_mixed _ (SpF K (cm K) 2 f__law_mixed) := m__law_mixed F__law_mixed 
  have G__law_mixed : Cal P w K mg base (cm K) "_law_mixed" 1 2 ["_law_cell", "_law_k"] f__law_mixed := ⟨_, fd__law_mixed, M__law_mixed, g__law_mixed, F__law_mixed.kp, FunD.bindsN F__law_mixed fun _ _ _ _ _ _ us hl => match us, hl with | [_, _], _ => rfl⟩
  have M__law_parts : FnOk P w K mg base (L2N.CX P w) 2 _ fd__law_parts _ (SpF K (cm K) 1 f__law_parts) := m__law_parts F__law_parts h_range G__law_at G__law_mixed
  have G__law_parts : Cal P w K mg base (cm K) "_law_parts" 2 1 ["_law_script"] f__law_parts := ⟨_, fd__law_parts, M__law_parts, g__law_parts, F__law_parts.kp, FunD.bindsN F__law_parts fun _ _ _ _ _ _ us hl => match us, hl with | [_], _ => rfl⟩
  have M__law_text : FnOk P w K mg base (L2N.CX P w) 1 _ fd__law_text _ (SpF K (cm K) 1 f__law_text) := m__law_text F__law_text h_len h_range h_str
  have G__law_text : Cal P w K mg base (cm K) "_law_text" 1 1 ["_law_held"] f__law_text := ⟨_, fd__law_text, M__law_text, g__law_text, F__law_text.kp, FunD.bindsN F__law_text fun _ _ _ _ _ _ us hl => match us, hl with | [_], _ => rfl⟩
  have M__law_sign : FnOk P w K mg base (L2N.CX P w) 1 _ fd__law_sign _ (SpF K (cm K) 1 f__law_sign) := m__law_sign F__law_sign 
  have G__law_sign : Cal P w K mg base (cm K) "_law_sign" 1 1 ["_law_number"] f__law_sign := ⟨_, fd__law_sign, M__law_sign, g__law_sign, F__law_sign.kp, FunD.bindsN F__law_sign fun _ _ _ _ _ _ us hl => match us, hl with | [_], _ => rfl⟩
  have M__law_changed : FnOk P w K mg base (L2N.CX P w) 2 _ fd__law_changed _ (SpF K (cm K) 2 f__law_changed) := m__law_changed F__law_changed h_len G__law_sign
  have G__law_changed : Cal P w K mg base (cm K) "_law_changed" 2 2 ["_law_text_here", "_law_number"] f__law_changed := ⟨_, fd__law_changed, M__law_changed, g__law_changed, F__law_changed.kp, FunD.bindsN F__law_changed fun _ _ _ _ _ _ us hl => match us, hl with | [_, _], _ => rfl⟩
  have M__law_drawn : FnOk P w K mg base (L2N.CX P w) 3 _ fd__law_drawn _ (SpF K (cm K) 1 f__law_drawn) := m__law_drawn F__law_drawn h_range G__law_mixed G__law_at G__law_text G__law_parts G__law_changed
  have G__law_drawn : Cal P w K mg base (cm K) "_law_drawn" 3 1 ["_law_script"] f__law_drawn := ⟨_, fd__law_drawn, M__law_drawn, g__law_drawn, F__law_drawn.kp, FunD.bindsN F__law_drawn fun _ _ _ _ _ _ us hl => match us, hl with | [_], _ => rfl⟩
  have M__law_due : FnOk P w K mg base (L2N.CX P w) 2 _ fd__law_due _ (SpF K (cm K) 1 f__law_due) := m__law_due F__law_due h_len h_int h_set h_sorted h_max G__law_text
  have G__law_due : Cal P w K mg base (cm K) "_law_due" 2 1 ["_law_text_here"] f__law_due := ⟨_, fd__law_due, M__law_due, g__law_due, F__law_due.kp, FunD.bindsN F__law_due fun _ _ _ _ _ _ us hl => match us, hl with | [_], _ => rfl⟩
  have M__law_refused : FnOk P w K mg base (L2.CX P w) 5 _ fd__law_refused _ (SpF K (cm K) 1 f__law_refused) := m__law_refused F__law_refused h_isinstance h_ValueError g_DealError g_BadHeir g_BadOrder g_BadRing g_BadShares g_BadTable g_BadThing g_Full g_BadNote x_BadNote G_read
  have G__law_refused : CalL P w K mg base (cm K) "_law_refused" 5 1 ["_law_text_here"] f__law_refused := ⟨_, fd__law_refused, M__law_refused, g__law_refused, F__law_refused.kp, FunD.bindsN F__law_refused fun _ _ _ _ _ _ us hl => match us, hl with | [_], _ => rfl⟩
  have M_law : FnOk P w K mg base (L2.CX P w) 6 _ fd_law _ (SpF K (cm K) 1 f_law) := m_law F_law h_isinstance h_list h_bool h_int G__law_refused G__law_at G__law_drawn G__law_due G_read
  exact M_law
end P
open PySem PySem.W PySem.Calls PyProof.Rows
set_option maxRecDepth 100000 in
set_option maxHeartbeats 0 in
theorem PySem.Challenge.cw_thingdeal_k14_read_holds : PySem.Challenge.rw_thingdeal_k14_read.Holds := by
  w_on; o_law
  refine HandSHeadRun.head_any (r := OpenLaw.row PySem.Challenge.rw_thingdeal_k14_read) (q := view (OpenLaw.row PySem.Challenge.rw_thingdeal_k14_read).prog [29]) (H := P.hk) (ob := P.ob) (M := 8000) (loose := P.nms) (d := HandSHeadRun.topDef (OpenLaw.row PySem.Challenge.rw_thingdeal_k14_read).prog 29) (kwd := []) P.ob_eq
    (by kernel_rfl) (fun s => by kernel_rfl) P.run (by kernel_rfl) (by kernel_rfl) (by kernel_rfl) (by rfl) (by first | assumption | decide +kernel) (by decide +kernel) ⟨rfl, rfl, rfl, rfl, rfl, by decide +kernel⟩ ?hw ?hc
  case hw => w_witness2
  case hc =>
    refine Z.walk_w (l := PySem.Challenge.rw_thingdeal_k14_read) (n := 63) (k := 6) (x := "_law_script") (CX := L2.CX PySem.Challenge.rw_thingdeal_k14_read.prog) rfl (by decide) (by kernel_rfl) ⟨rfl, by decide, by decide⟩ Z.cxL_no ?F
    intro w mg fa h Y G hmg0
    obtain ⟨K, KX, c, hx⟩ := Y
    have hmg : mg ("law" : PySem.Str) = some (.ref fa) := by
      have e : (HandSHeadRun.topDef (OpenLaw.row PySem.Challenge.rw_thingdeal_k14_read).prog 29).name = ("law" : PySem.Str) := by kernel_rfl
      rw [← e]
      exact hmg0
    obtain ⟨fd, hb, hF⟩ := P.facts (P := (PySem.Challenge.rw_thingdeal_k14_read).prog) (w := w) KX G hmg c hx
    refine ⟨K, fd, Z.SpF K (P.cm K) 1 P.f_law, KX, hb, fun H a ns hl _ hS => ⟨H, [.dict [(.none, .list (ns.map PyData.int))]], L2.Same.refl _, .cons (.scr ns hS) .nil, rfl, ?_⟩, hF⟩
    rw [P.law_true ns hl]
    intro v G' H' _ hr
    cases hr
    rfl
