import PyProof.Rows.All
import Wide.All
import OpenK.AllK
import Wide.FinOn
import HandS.ForMost
import HandS.ForExc
import HandS.Deep
import HandS.Zip
import HandS.SortInts
import HandS.Style
import HandS.Conv
import HandS.IsInst
import HandS.More
import HandS.Defaults
import HandS.ExcCtx
import HandS.SetFor
import HandS.HeadEnd
import HandS.ExcIs
import HandS.CallSlots
import HandS.HotCalls
import HandS.HeadHook2
import HandS.FStr
import HandS.Text
import KE.KDictZip
import HandS.ListItems
import HandS.Hot
import KE.SortData
import HandS.Head0
import HandS.Head1
import HandS.Head2
import PySem.Challenge.RW_thingdeal_k15_whole_heirs_of_one_mind
/-! ## Z1 -/
set_option Elab.async false
set_option linter.all false
set_option maxRecDepth 100000
set_option maxHeartbeats 2000000
namespace Z
open PySem PySem.Spec PyProof.Rows L2

/-! ### plain data at a value, over a heap G that never changes -/
abbrev PD := PyData
mutual
inductive Rp (K : PySem.W.Frag) (G : Hp) : V → PD → Prop
  | non : Rp K G .non .none
  | bl (b : Bool) : Rp K G (.bl b) (.bool b)
  | int (i : Int) : Rp K G (.int i) (.int i)
  | str (x : Str) : Rp K G (.str x) (.str x)
  | lst {a : Addr} {xs : List V} {ds : List PD} : G a = some (.lst xs) → RpA K G xs ds → Rp K G (.ref a) (.list ds)
  | tup {a : Addr} {xs : List V} {ds : List PD} : G a = some (.tup xs) → RpA K G xs ds → Rp K G (.ref a) (.tuple ds)
  | emp {a : Addr} : G a = some (.dK []) → Rp K G (.ref a) (.dict [])
  /-- the law's own argument: read, never written -/
  | scr {a : Addr} (ns : List Int) : SqL K G a (ns.map V.int) → Rp K G (.ref a) (.dict [(.none, .list (ns.map PyData.int))])
inductive RpA (K : PySem.W.Frag) (G : Hp) : List V → List PD → Prop
  | nil : RpA K G [] []
  | cons {v : V} {vs : List V} {d : PD} {ds : List PD} : Rp K G v d → RpA K G vs ds → RpA K G (v :: vs) (d :: ds)
end
section
variable {K : PySem.W.Frag} {G G' H H' : Hp}
theorem sq_t {a : Addr} {xs : List V} (e : Same H H') (h : SqT K H a xs) : SqT K H' a xs := by
  rcases h with (h | ⟨o, h⟩) | h
  · exact .inl (.inl (e _ _ h))
  · exact .inl (.inr ⟨o, e _ _ h⟩)
  · exact .inr h
mutual
theorem Rp.mono (e : Same G G') : ∀ (d : PD) (v : V), Rp K G v d → Rp K G' v d
  | .none, _, h => by cases h; exact .non
  | .bool b, _, h => by cases h; exact .bl b
  | .int i, _, h => by cases h; exact .int i
  | .str x, _, h => by cases h; exact .str x
  | .list ds, _, h => by
    cases h with
    | lst hs ha => exact .lst (e _ _ hs) (RpA.mono e ds _ ha)
  | .tuple ds, _, h => by
    cases h with
    | tup hs ha => exact .tup (e _ _ hs) (RpA.mono e ds _ ha)
  | .dict _, _, h => by
    cases h with
    | emp he => exact .emp (e _ _ he)
    | scr ns he => exact .scr ns (e.seq he)
theorem RpA.mono (e : Same G G') : ∀ (ds : List PD) (vs : List V), RpA K G vs ds → RpA K G' vs ds
  | [], _, h => by cases h; exact .nil
  | d :: ds, _, h => by
    cases h with
    | cons h1 h2 => exact .cons (Rp.mono e d _ h1) (RpA.mono e ds _ h2)
end
theorem Rp.up {d : PD} {v : V} (h : Rp K G v d) (e : Same G G') : Rp K G' v d := Rp.mono e d v h
theorem RpA.up {d : List PD} {v : List V} (h : RpA K G v d) (e : Same G G') : RpA K G' v d := RpA.mono e d v h
mutual
/-- no dict in it -/
def noD : PD → Bool
  | .dict _ => false
  | .list ds => noDs ds
  | .tuple ds => noDs ds
  | _ => true
def noDs : List PD → Bool
  | [] => true
  | d :: ds => noD d && noDs ds
end
mutual
theorem Rp.dp : ∀ (d : PD) (v : V), noD d = true → Rp K G v d → Dp K G v d
  | .none, _, _, h => by cases h; exact .non
  | .bool b, _, _, h => by cases h; exact .bl b
  | .int i, _, _, h => by cases h; exact .int i
  | .str x, _, _, h => by cases h; exact .str x
  | .list ds, _, n, h => by
    cases h with
    | lst hs ha => exact .lst (SqL.of hs) (RpA.dp ds _ (by simpa [noD] using n) ha)
  | .tuple ds, _, n, h => by
    cases h with
    | tup hs ha => exact .tup (SqT.of hs) (RpA.dp ds _ (by simpa [noD] using n) ha)
  | .dict _, _, n, _ => by simp [noD] at n
theorem RpA.dp : ∀ (ds : List PD) (vs : List V), noDs ds = true → RpA K G vs ds → DpAll K G vs ds
  | [], _, _, h => by cases h; exact .nil
  | d :: ds, _, n, h => by
    cases h with
    | cons h1 h2 =>
      simp only [noDs, Bool.and_eq_true] at n
      exact .cons (Rp.dp d _ n.1 h1) (RpA.dp ds _ n.2 h2)
end
theorem RpA.length {vs : List V} {ds : List PD} (h : RpA K G vs ds) : vs.length = ds.length := by
  induction ds generalizing vs with
  | nil => cases h; rfl
  | cons d ds ih =>
    cases h with
    | cons h1 h2 => simp [ih h2]
theorem RpA.get {vs : List V} {ds : List PD} (h : RpA K G vs ds) {i : Nat} {v : V} (e : vs[i]? = some v) : ∃ d, ds[i]? = some d ∧ Rp K G v d := by
  induction ds generalizing vs i with
  | nil => cases h; simp at e
  | cons d ds ih =>
    cases h with
    | cons h1 h2 =>
      cases i with
      | zero =>
        simp at e
        subst e
        exact ⟨d, rfl, h1⟩
      | succ i => simpa using ih h2 (by simpa using e)
theorem RpA.getD {vs : List V} {ds : List PD} (h : RpA K G vs ds) {i : Nat} {d : PD} (e : ds[i]? = some d) : ∃ v, vs[i]? = some v ∧ Rp K G v d := by
  induction ds generalizing vs i with
  | nil => simp at e
  | cons d0 ds ih =>
    cases h with
    | cons h1 h2 =>
      cases i with
      | zero =>
        simp at e
        subst e
        exact ⟨_, rfl, h1⟩
      | succ i => simpa using ih h2 (by simpa using e)
theorem RpA.append {vs us : List V} {ds es : List PD} (h : RpA K G vs ds) (h' : RpA K G us es) : RpA K G (vs ++ us) (ds ++ es) := by
  induction ds generalizing vs with
  | nil => cases h; exact h'
  | cons d ds ih =>
    cases h with
    | cons h1 h2 => exact .cons h1 (ih h2)
theorem RpA.take {vs : List V} {ds : List PD} (h : RpA K G vs ds) (n : Nat) : RpA K G (vs.take n) (ds.take n) := by
  induction ds generalizing vs n with
  | nil => cases h; simp; exact .nil
  | cons d ds ih =>
    cases h with
    | cons h1 h2 =>
      cases n with
      | zero => exact .nil
      | succ n => exact .cons h1 (ih h2 n)
theorem RpA.drop {vs : List V} {ds : List PD} (h : RpA K G vs ds) (n : Nat) : RpA K G (vs.drop n) (ds.drop n) := by
  induction ds generalizing vs n with
  | nil => cases h; simp; exact .nil
  | cons d ds ih =>
    cases h with
    | cons h1 h2 =>
      cases n with
      | zero => exact .cons h1 h2
      | succ n => exact ih h2 n
theorem RpA.ints {ns : List Int} {vs : List V} (h : RpA K G vs (ns.map PyData.int)) : vs = ns.map V.int := by
  induction ns generalizing vs with
  | nil => cases h; rfl
  | cons n ns ih =>
    cases h with
    | cons h1 h2 =>
      cases h1
      rw [ih h2]
      rfl
theorem rpA_ints (ns : List Int) : RpA K G (ns.map V.int) (ns.map PyData.int) := by
  induction ns with
  | nil => exact .nil
  | cons n ns ih => exact .cons (.int n) ih
theorem RpA.bools {ns : List Bool} {vs : List V} (h : RpA K G vs (ns.map PyData.bool)) : vs = ns.map V.bl := by
  induction ns generalizing vs with
  | nil => cases h; rfl
  | cons n ns ih =>
    cases h with
    | cons h1 h2 =>
      cases h1
      rw [ih h2]
      rfl
end

/-! ### flat values -/
def scV : PD → Option V
  | .none => some .non
  | .bool b => some (.bl b)
  | .int i => some (.int i)
  | .str x => some (.str x)
  | _ => none
theorem Rp.sc {K : PySem.W.Frag} {G : Hp} {v x : V} {d : PD} (h : Rp K G v d) (e : scV d = some x) : v = x := by
  cases h <;> simp [scV] at e <;> exact e
theorem rp_sc {K : PySem.W.Frag} {G : Hp} {x : V} {d : PD} (e : scV d = some x) : Rp K G x d := by
  cases d <;> simp [scV] at e <;> subst e
  · exact .non
  · exact .bl _
  · exact .int _
  · exact .str _

/-! ### owned lists: trees of n levels of lists of one's own over plain data -/
def Ty : Nat → Type
  | 0 => PD
  | n + 1 => List (Ty n)
def ATy : Nat → Type
  | 0 => V × PD
  | n + 1 => Addr × List (ATy n)
def ATy.val : (n : Nat) → ATy n → V
  | 0, x => x.1
  | _ + 1, x => .ref x.1
def ATy.era : (n : Nat) → ATy n → Ty n
  | 0, x => x.2
  | n + 1, x => x.2.map (ATy.era n)
def ATy.adr : (n : Nat) → ATy n → List Addr
  | 0, _ => []
  | n + 1, x => x.1 :: x.2.flatMap (ATy.adr n)
/-- no list stands in it twice -/
def ATy.nd : (n : Nat) → ATy n → Prop
  | 0, _ => True
  | n + 1, x => (∀ y ∈ x.2, ATy.nd n y ∧ x.1 ∉ ATy.adr n y) ∧ x.2.Pairwise fun y z => ∀ a ∈ ATy.adr n y, a ∉ ATy.adr n z
def ATy.ok (K : PySem.W.Frag) (G H : Hp) : (n : Nat) → ATy n → Prop
  | 0, x => Rp K G x.1 x.2
  | n + 1, x => H x.1 = some (.lst (x.2.map (ATy.val n))) ∧ ∀ y ∈ x.2, ATy.ok K G H n y
def Ty.dat : (n : Nat) → Ty n → PD
  | 0, d => d
  | n + 1, l => .list (l.map (Ty.dat n))
section
variable {K : PySem.W.Frag} {G G' H H' : Hp}
theorem ATy.ok_mono (eg : Same G G') (eh : Same H H') : ∀ (n : Nat) (x : ATy n), ATy.ok K G H n x → ATy.ok K G' H' n x
  | 0, _, h => Rp.up h eg
  | n + 1, _, h => ⟨eh _ _ h.1, fun y hy => ATy.ok_mono eg eh n y (h.2 y hy)⟩
/-- the lists are kept, whatever else is -/
theorem ATy.ok_keep (eg : Same G G') : ∀ (n : Nat) (x : ATy n), (∀ a ∈ ATy.adr n x, H' a = H a) → ATy.ok K G H n x → ATy.ok K G' H' n x
  | 0, _, _, h => Rp.up h eg
  | n + 1, x, k, h => ⟨by rw [k x.1 (by simp [ATy.adr])]; exact h.1, fun y hy => ATy.ok_keep eg n y (fun a ha => k a (by
      simp only [ATy.adr, List.mem_cons, List.mem_flatMap]
      exact .inr ⟨y, hy, ha⟩)) (h.2 y hy)⟩
theorem ATy.in_heap : ∀ (n : Nat) (x : ATy n), ATy.ok K G H n x → ∀ a ∈ ATy.adr n x, ∃ xs, H a = some (.lst xs)
  | 0, _, _, a, ha => by simp [ATy.adr] at ha
  | n + 1, x, h, a, ha => by
    simp only [ATy.adr, List.mem_cons, List.mem_flatMap] at ha
    rcases ha with rfl | ⟨y, hy, ha⟩
    · exact ⟨_, h.1⟩
    · exact ATy.in_heap n y (h.2 y hy) a ha
mutual
theorem ATy.rp (s : Same G H) : ∀ (n : Nat) (x : ATy n), ATy.ok K G H n x → Rp K H (ATy.val n x) (Ty.dat n (ATy.era n x))
  | 0, _, h => Rp.up h s
  | n + 1, x, h => by
    show Rp K H (.ref x.1) (.list ((x.2.map (ATy.era n)).map (Ty.dat n)))
    exact .lst h.1 (ATy.rpA s n x.2 h.2)
theorem ATy.rpA (s : Same G H) : ∀ (n : Nat) (xs : List (ATy n)), (∀ y ∈ xs, ATy.ok K G H n y) → RpA K H (xs.map (ATy.val n)) ((xs.map (ATy.era n)).map (Ty.dat n))
  | _, [], _ => .nil
  | n, x :: xs, h => .cons (ATy.rp s n x (h x List.mem_cons_self)) (ATy.rpA s n xs fun y hy => h y (List.mem_cons_of_mem _ hy))
end
end
end Z

/-! ## Z2 -/
set_option Elab.async false
set_option linter.all false
set_option maxRecDepth 100000
set_option maxHeartbeats 2000000
namespace Z
open PySem PySem.Spec PyProof.Rows L2

/-- G: what is known for ever, H: the heap; from (G, H) to (G', H') -/
structure Grow (G H G' H' : Hp) : Prop where
  g : Same G G'
  h : Same H H'
  s : Same G' H'
  m : ∀ a o, H a = some o → Mut (some o) → G a = none → G' a = none
theorem Grow.refl {G H : Hp} (s : Same G H) : Grow G H G H := ⟨Same.refl _, Same.refl _, s, fun _ _ _ _ h => h⟩
theorem Grow.trans {G H G1 H1 G2 H2 : Hp} (a : Grow G H G1 H1) (b : Grow G1 H1 G2 H2) : Grow G H G2 H2 :=
  ⟨a.g.trans b.g, a.h.trans b.h, b.s, fun x o h1 h2 h3 => b.m x o (a.h _ _ h1) h2 (a.m x o h1 h2 h3)⟩
theorem same_upd {H : Hp} {p : Addr} {o : HO} (h : H p = none) : Same H (upd H p o) := fun b x e => by
  rw [upd_ne (ne_of_none e h)]
  exact e
theorem same_upd2 {G H : Hp} {p : Addr} {o : HO} (s : Same G H) (h : H p = none) : Same (upd G p o) (upd H p o) := fun b x e => by
  by_cases q : b = p
  · subst q; rw [upd_same] at e ⊢; exact e
  · rw [upd_ne q] at e ⊢; exact s _ _ e
/-- a new object, not to be known for ever -/
theorem Grow.new {G H : Hp} {p : Addr} {o : HO} (s : Same G H) (h : H p = none) : Grow G H G (upd H p o) :=
  ⟨Same.refl _, same_upd h, s.trans (same_upd h), fun _ _ _ _ h => h⟩
/-- a new object, known for ever -/
theorem Grow.newK {G H : Hp} {p : Addr} {o : HO} (s : Same G H) (h : H p = none) : Grow G H (upd G p o) (upd H p o) :=
  ⟨same_upd (s.free h), same_upd h, same_upd2 s h, fun a u h1 _ h3 => by rw [upd_ne (ne_of_none h1 h)]; exact h3⟩

/-! ### results, entries -/
inductive R where
  | im (d : PD)
  /-- an owned list of this frame, read -/
  | ro (n : Nat) (t : Ty (n + 1))
  /-- new, nobody else's -/
  | fr (n : Nat) (t : Ty (n + 1))
def R.dat : R → PD
  | .im d => d
  | .ro n t => Ty.dat (n + 1) t
  | .fr n t => Ty.dat (n + 1) t
inductive Out (α : Type) where
  | ok (a : α)
  | ex (c : String)
  | st
def Out.bind {α β : Type} (x : Out α) (f : α → Out β) : Out β := match x with
  | .ok a => f a
  | .ex c => .ex c
  | .st => .st
inductive Ent where
  | no
  | im (d : PD)
  | ow (n : Nat) (t : Ty (n + 1))
  /-- just this value -/
  | vv (v : V)
  /-- an instance of an own class, its attributes known for ever -/
  | ob (a C : Addr) (fs : List (Str × PD))
abbrev Env := List Ent
abbrev ED := Env → Out R
abbrev AD := Env → Out (List R)
abbrev CM := String → Value

inductive FldOk (K : PySem.W.Frag) (G : Hp) : List (Str × PD) → List (Str × V) → Prop
  | nil : FldOk K G [] []
  | cons {f : Str} {d : PD} {v : V} {fs : List (Str × PD)} {vs : List (Str × V)} : Rp K G v d → FldOk K G fs vs → FldOk K G ((f, d) :: fs) ((f, v) :: vs)
theorem FldOk.up {K : PySem.W.Frag} {G G' : Hp} {fs : List (Str × PD)} {vs : List (Str × V)} (h : FldOk K G fs vs) (e : Same G G') : FldOk K G' fs vs := by
  induction h with
  | nil => exact .nil
  | cons r _ ih => exact .cons (r.up e) ih
def EntOk (K : PySem.W.Frag) (H0 G H : Hp) (w : Addr → Option Nat) (i : Nat) : Ent → Option V → Prop
  | .no, _ => True
  | .im d, o => ∃ v, o = some v ∧ Rp K G v d
  | .ow n t, o => ∃ x : ATy (n + 1), o = some (ATy.val (n + 1) x) ∧ ATy.era (n + 1) x = t ∧ ATy.ok K G H (n + 1) x ∧ ATy.nd (n + 1) x ∧ ∀ a ∈ ATy.adr (n + 1) x, w a = some i ∧ G a = none ∧ H0 a = none
  | .vv v, o => o = some v
  | .ob a C fs, o => o = some (.ref a) ∧ w a = some i ∧ (G a = none ∧ H0 a = none) ∧ ∃ dx vs, H a = some (.ins C dx vs) ∧ FldOk K G fs vs
structure EnvOk (K : PySem.W.Frag) (G0 H0 G H : Hp) (σ : L2.St) (ρ : Env) : Prop where
  len : σ.length = ρ.length
  b : Grow G0 H0 G H
  e : ∃ w : Addr → Option Nat, ∀ (i : Nat) (e : Ent), ρ[i]? = some e → EntOk K H0 G H w i e (σ.getD i none)
def ROk (K : PySem.W.Frag) (H0 G H : Hp) : R → V → Prop
  | .im d, v => Rp K G v d
  | .ro n t, v => ∃ x : ATy (n + 1), ATy.era (n + 1) x = t ∧ ATy.val (n + 1) x = v ∧ ATy.ok K G H (n + 1) x
  | .fr n t, v => ∃ x : ATy (n + 1), ATy.era (n + 1) x = t ∧ ATy.val (n + 1) x = v ∧ ATy.ok K G H (n + 1) x ∧ ATy.nd (n + 1) x ∧ ∀ a ∈ ATy.adr (n + 1) x, H0 a = none ∧ G a = none
section
variable {K : PySem.W.Frag} {G0 H0 G H G' H' : Hp} {σ : L2.St} {ρ : Env}
theorem EntOk.grow {w : Addr → Option Nat} {i : Nat} {e : Ent} {o : Option V} (h : EntOk K H0 G H w i e o) (g : Grow G H G' H') : EntOk K H0 G' H' w i e o := by
  cases e with
  | no => trivial
  | im d => obtain ⟨v, e1, e2⟩ := h; exact ⟨v, e1, e2.up g.g⟩
  | ow n t =>
    obtain ⟨x, e1, e2, e3, e4, e5⟩ := h
    refine ⟨x, e1, e2, ATy.ok_mono g.g g.h _ _ e3, e4, fun a ha => ?_⟩
    obtain ⟨xs, hx⟩ := ATy.in_heap _ _ e3 a ha
    exact ⟨(e5 a ha).1, g.m a _ hx trivial (e5 a ha).2.1, (e5 a ha).2.2⟩
  | vv v => exact h
  | ob a C fs =>
    obtain ⟨e1, e2, e3, dx, vs, e4, e5⟩ := h
    exact ⟨e1, e2, ⟨g.m a _ e4 trivial e3.1, e3.2⟩, dx, vs, g.h _ _ e4, e5.up g.g⟩
theorem EnvOk.grow (h : EnvOk K G0 H0 G H σ ρ) (g : Grow G H G' H') : EnvOk K G0 H0 G' H' σ ρ := by
  obtain ⟨l, b, w, e⟩ := h
  exact ⟨l, b.trans g, w, fun i e' he => (e i e' he).grow g⟩
theorem EnvOk.s (h : EnvOk K G0 H0 G H σ ρ) : Same G H := h.b.s
theorem ROk.rp {r : R} {v : V} (s : Same G H) (h : ROk K H0 G H r v) : Rp K H v r.dat := by
  cases r with
  | im d => exact Rp.up h s
  | ro n t => obtain ⟨x, e1, e2, e3⟩ := h; subst e1; subst e2; exact ATy.rp s (n + 1) x e3
  | fr n t => obtain ⟨x, e1, e2, e3, _⟩ := h; subst e1; subst e2; exact ATy.rp s (n + 1) x e3
theorem ROk.grow {r : R} {v : V} (h : ROk K H0 G H r v) (g : Grow G H G' H') : ROk K H0 G' H' r v := by
  cases r with
  | im d => exact Rp.up h g.g
  | ro n t => obtain ⟨x, e1, e2, e3⟩ := h; exact ⟨x, e1, e2, ATy.ok_mono g.g g.h _ _ e3⟩
  | fr n t =>
    obtain ⟨x, e1, e2, e3, e4, e5⟩ := h
    refine ⟨x, e1, e2, ATy.ok_mono g.g g.h _ _ e3, e4, fun a ha => ?_⟩
    obtain ⟨xs, hx⟩ := ATy.in_heap _ _ e3 a ha
    exact ⟨(e5 a ha).1, g.m a _ hx trivial (e5 a ha).2⟩
/-- freshness against an earlier heap -/
theorem ROk.base {H1 : Hp} {r : R} {v : V} (h : ROk K H1 G H r v) (e : Same H0 H1) : ROk K H0 G H r v := by
  cases r with
  | im d => exact h
  | ro n t => exact h
  | fr n t =>
    obtain ⟨x, e1, e2, e3, e4, e5⟩ := h
    exact ⟨x, e1, e2, e3, e4, fun a ha => ⟨e.free (e5 a ha).1, (e5 a ha).2⟩⟩
/-- the lists at some places become known for ever -/
def know (G H : Hp) (as : List Addr) : Hp := fun a => if a ∈ as then H a else G a
theorem know_same {as : List Addr} (s : Same G H) (hn : ∀ a ∈ as, G a = none) : Same G (know G H as) := fun a o e => by
  unfold know
  by_cases h : a ∈ as
  · rw [hn a h] at e; cases e
  · rw [if_neg h]; exact e
theorem know_heap {as : List Addr} (s : Same G H) : Same (know G H as) H := fun a o e => by
  unfold know at e
  by_cases h : a ∈ as
  · rw [if_pos h] at e; exact e
  · rw [if_neg h] at e; exact s _ _ e
theorem know_in {as : List Addr} {a : Addr} (h : a ∈ as) : know G H as a = H a := if_pos h
theorem know_out {as : List Addr} {a : Addr} (h : a ∉ as) : know G H as a = G a := if_neg h
/-- a tree whose lists are known for ever is plain data -/
theorem ATy.known : ∀ (n : Nat) (x : ATy n), (∀ a ∈ ATy.adr n x, G' a = H a) → Same G G' → ATy.ok K G H n x → Rp K G' (ATy.val n x) (Ty.dat n (ATy.era n x))
  | n, x, k, s, h => by
    have h2 : ATy.ok K G' G' n x := by
      have h3 : ATy.ok K G' H n x := ATy.ok_mono s (Same.refl _) n x h
      exact ATy.ok_keep (Same.refl _) n x k h3
    exact ATy.rp (Same.refl _) n x h2
/-- what is new becomes known for ever -/
theorem ROk.freeze {n : Nat} {t : Ty (n + 1)} {v : V} (s : Same G H) (g : Grow G0 H0 G H) (h : ROk K H0 G H (.fr n t) v) : ∃ G', Same G G' ∧ Grow G0 H0 G' H ∧ Rp K G' v (Ty.dat (n + 1) t) := by
  obtain ⟨x, e1, e2, e3, e4, e5⟩ := h
  subst e1; subst e2
  refine ⟨know G H (ATy.adr (n + 1) x), know_same s fun a ha => (e5 a ha).2, ⟨g.g.trans (know_same s fun a ha => (e5 a ha).2), g.h, know_heap s, fun a o h1 h2 h3 => ?_⟩,
    ATy.known (n + 1) x (fun a ha => know_in ha) (know_same s fun a ha => (e5 a ha).2) e3⟩
  by_cases h : a ∈ ATy.adr (n + 1) x
  · rw [(e5 a h).1] at h1; cases h1
  · rw [know_out h]; exact g.m a o h1 h2 h3
end

/-! ### what a piece of text does, by a function of the entries -/
def OOk (K : PySem.W.Frag) (E : XK) (C : CM) (G H : Hp) (Q : VK) : Out R → Prop
  | .ok r => ∀ v G' H', Grow G H G' H' → ROk K H G' H' r v → Q v H'
  | .ex c => ∀ G' H', Grow G H G' H' → E (C c) none H'
  | .st => False
def SimE (K : PySem.W.Frag) (E : XK) (C : CM) (te : TE) (e : ED) : Prop :=
  ∀ G0 H0 G H σ ρ (Q : VK), EnvOk K G0 H0 G H σ ρ → OOk K E C G H Q (e ρ) → te σ H Q
inductive ROkA (K : PySem.W.Frag) (H0 G H : Hp) : List R → List V → Prop
  | nil : ROkA K H0 G H [] []
  | cons {r : R} {rs : List R} {v : V} {vs : List V} : ROk K H0 G H r v → ROkA K H0 G H rs vs → ROkA K H0 G H (r :: rs) (v :: vs)
def hpE : Hp := fun _ => none
theorem ROk.e {K : PySem.W.Frag} {H0 G H : Hp} {r : R} {v : V} (h : ROk K H0 G H r v) : ROk K hpE G H r v := h.base fun _ _ e => nomatch e
def AOk (K : PySem.W.Frag) (E : XK) (C : CM) (G H : Hp) (Q : List V → Hp → Prop) : Out (List R) → Prop
  | .ok rs => ∀ vs G' H', Grow G H G' H' → ROkA K hpE G' H' rs vs → Q vs H'
  | .ex c => ∀ G' H', Grow G H G' H' → E (C c) none H'
  | .st => False
def SimA (K : PySem.W.Frag) (E : XK) (C : CM) (ta : TA) (a : AD) : Prop :=
  ∀ G0 H0 G H σ ρ (Q : List V → Hp → Prop), EnvOk K G0 H0 G H σ ρ → AOk K E C G H Q (a ρ) → ta σ H Q
def TD := Env → Out Bool
def TOk (K : PySem.W.Frag) (E : XK) (C : CM) (G H : Hp) (Q : Bool → Hp → Prop) : Out Bool → Prop
  | .ok b => ∀ G' H', Grow G H G' H' → Q b H'
  | .ex c => ∀ G' H', Grow G H G' H' → E (C c) none H'
  | .st => False
def SimT (K : PySem.W.Frag) (E : XK) (C : CM) (tt : TT) (t : TD) : Prop :=
  ∀ G0 H0 G H σ ρ (Q : Bool → Hp → Prop), EnvOk K G0 H0 G H σ ρ → TOk K E C G H Q (t ρ) → tt σ H Q
inductive SO where
  | nx (ρ : Env)
  | rt (r : R)
  | rv (r : R) (ρ : Env)
  | ev (c : String) (ρ : Env)
  | bk (ρ : Env)
  | ct (ρ : Env)
  | ex (c : String)
  | st
abbrev SD := Env → SO
def SOk (K : PySem.W.Frag) (E : XK) (C : CM) (G0 H0 G : Hp) (D : Ends) : SO → Prop
  | .nx ρ => ∀ σ G' H', Same G G' → EnvOk K G0 H0 G' H' σ ρ → D.nx σ H'
  | .bk ρ => ∀ σ G' H', Same G G' → EnvOk K G0 H0 G' H' σ ρ → D.bk σ H'
  | .ct ρ => ∀ σ G' H', Same G G' → EnvOk K G0 H0 G' H' σ ρ → D.ct σ H'
  | .rt r => ∀ v G H, Grow G0 H0 G H → ROk K H0 G H r v → D.rt v H
  | .rv r ρ => ∀ v σ G' H', Same G G' → EnvOk K G0 H0 G' H' σ ρ → ROk K H0 G' H' r v → D.rt v H'
  | .ev c ρ => ∀ σ G' H', Same G G' → EnvOk K G0 H0 G' H' σ ρ → E (C c) none H'
  | .ex c => ∀ G H, Grow G0 H0 G H → E (C c) none H
  | .st => False
theorem SOk.up {K : PySem.W.Frag} {E : XK} {C : CM} {G0 H0 G G' : Hp} {D : Ends} {o : SO} (h : SOk K E C G0 H0 G D o) (s : Same G G') : SOk K E C G0 H0 G' D o := by
  cases o with
  | nx ρ => exact fun σ G2 H2 s2 I => h σ G2 H2 (s.trans s2) I
  | bk ρ => exact fun σ G2 H2 s2 I => h σ G2 H2 (s.trans s2) I
  | ct ρ => exact fun σ G2 H2 s2 I => h σ G2 H2 (s.trans s2) I
  | rt r => exact h
  | rv r ρ => exact fun v σ G2 H2 s2 I => h v σ G2 H2 (s.trans s2) I
  | ev c ρ => exact fun σ G2 H2 s2 I => h σ G2 H2 (s.trans s2) I
  | ex c => exact h
  | st => exact h
def SimS (K : PySem.W.Frag) (E : XK) (C : CM) (ts : TS) (d : SD) : Prop :=
  ∀ G0 H0 G H σ ρ (D : Ends), EnvOk K G0 H0 G H σ ρ → SOk K E C G0 H0 G D (d ρ) → ts D σ H

section
variable {K : PySem.W.Frag} {E : XK} {C : CM} {G H G' H' : Hp} {Q : VK}
theorem OOk.up {o : Out R} (h : OOk K E C G H Q o) (g : Grow G H G' H') : OOk K E C G' H' Q o := by
  cases o with
  | ok r => exact fun v G2 H2 g2 r2 => h v G2 H2 (g.trans g2) (r2.base g.h)
  | ex c => exact fun G2 H2 g2 => h G2 H2 (g.trans g2)
  | st => exact h
theorem ROkA.base {rs : List R} {vs : List V} {H1 : Hp} (h : ROkA K H1 G' H' rs vs) (e : Same H H1) : ROkA K H G' H' rs vs := by
  induction h with
  | nil => exact .nil
  | cons a _ ih => exact .cons (a.base e) ih
theorem ROkA.grow {rs : List R} {vs : List V} {H0 : Hp} (h : ROkA K H0 G H rs vs) (g : Grow G H G' H') : ROkA K H0 G' H' rs vs := by
  induction h with
  | nil => exact .nil
  | cons a _ ih => exact .cons (a.grow g) ih
theorem AOk.up {Q : List V → Hp → Prop} {o : Out (List R)} (h : AOk K E C G H Q o) (g : Grow G H G' H') : AOk K E C G' H' Q o := by
  cases o with
  | ok r => exact fun v G2 H2 g2 r2 => h v G2 H2 (g.trans g2) r2
  | ex c => exact fun G2 H2 g2 => h G2 H2 (g.trans g2)
  | st => exact h
theorem TOk.up {Q : Bool → Hp → Prop} {o : Out Bool} (h : TOk K E C G H Q o) (g : Grow G H G' H') : TOk K E C G' H' Q o := by
  cases o with
  | ok r => exact fun G2 H2 g2 => h G2 H2 (g.trans g2)
  | ex c => exact fun G2 H2 g2 => h G2 H2 (g.trans g2)
  | st => exact h
/-- an expression, then what hangs on its value -/
theorem SimE.step {te : TE} {e : ED} (h : SimE K E C te e) {G0 H0 : Hp} {σ : L2.St} {ρ : Env} (I : EnvOk K G0 H0 G H σ ρ) {Q : VK} {α : Type} {f : R → Out α} {P : Out α → Prop} (hp : P ((e ρ).bind f))
    (hex : ∀ c, P (.ex c) → ∀ G' H', Grow G H G' H' → E (C c) none H') (hst : ¬ P .st)
    (k : ∀ r v G' H', e ρ = .ok r → Grow G H G' H' → EnvOk K G0 H0 G' H' σ ρ → ROk K H G' H' r v → P (f r) → Q v H') : te σ H Q := by
  refine h G0 H0 G H σ ρ Q I ?_
  cases he : e ρ with
  | ok r => rw [he] at hp; exact fun v G' H' g hr => k r v G' H' he g (I.grow g) hr hp
  | ex c => rw [he] at hp; exact hex c hp
  | st => rw [he] at hp; exact (hst hp).elim
end
end Z

/-! ## Z3 -/
set_option Elab.async false
set_option linter.all false
set_option maxRecDepth 100000
set_option maxHeartbeats 2000000
namespace Z
open PySem PySem.Spec PyProof.Rows L2

/-- what is wanted of an outcome, from (G, H) on -/
structure Fam (E : XK) (C : CM) {β : Type} (P : Hp → Hp → Out β → Prop) : Prop where
  up : ∀ {G H G' H' o}, P G H o → Grow G H G' H' → P G' H' o
  ex : ∀ {G H c}, P G H (.ex c) → ∀ G' H', Grow G H G' H' → E (C c) none H'
  st : ∀ {G H}, ¬ P G H .st
section
variable {K : PySem.W.Frag} {E : XK} {C : CM} {G0 H0 G H : Hp} {σ : L2.St} {ρ : Env} {β : Type} {P : Hp → Hp → Out β → Prop}
theorem famO {Q : VK} : Fam E C fun G H => OOk K E C G H Q := ⟨fun h g => h.up g, fun h => h, fun h => h⟩
theorem famA {Q : List V → Hp → Prop} : Fam E C fun G H => AOk K E C G H Q := ⟨fun h g => h.up g, fun h => h, fun h => h⟩
theorem famT {Q : Bool → Hp → Prop} : Fam E C fun G H => TOk K E C G H Q := ⟨fun h g => h.up g, fun h => h, fun h => h⟩
theorem SimE.use (F : Fam E C P) {ta : TE} {a : ED} (ha : SimE K E C ta a) (I : EnvOk K G0 H0 G H σ ρ) {f : R → Out β} (h : P G H ((a ρ).bind f)) {Q : VK}
    (k : ∀ r v G' H', a ρ = .ok r → Grow G H G' H' → EnvOk K G0 H0 G' H' σ ρ → ROk K H G' H' r v → P G' H' (f r) → Q v H') : ta σ H Q := by
  refine ha G0 H0 G H σ ρ Q I ?_
  cases e : a ρ with
  | ok r =>
    rw [e] at h
    intro v G' H' g hr
    exact k r v G' H' e g (I.grow g) hr (F.up (show P G H (f r) from h) g)
  | ex c => rw [e] at h; exact F.ex h
  | st => rw [e] at h; exact (F.st h).elim
theorem SimA.use (F : Fam E C P) {ta : TA} {a : AD} (ha : SimA K E C ta a) (I : EnvOk K G0 H0 G H σ ρ) {f : List R → Out β} (h : P G H ((a ρ).bind f)) {Q : List V → Hp → Prop}
    (k : ∀ r v G' H', a ρ = .ok r → Grow G H G' H' → EnvOk K G0 H0 G' H' σ ρ → ROkA K hpE G' H' r v → P G' H' (f r) → Q v H') : ta σ H Q := by
  refine ha G0 H0 G H σ ρ Q I ?_
  cases e : a ρ with
  | ok r =>
    rw [e] at h
    intro v G' H' g hr
    exact k r v G' H' e g (I.grow g) hr (F.up (show P G H (f r) from h) g)
  | ex c => rw [e] at h; exact F.ex h
  | st => rw [e] at h; exact (F.st h).elim
theorem SimT.use (F : Fam E C P) {ta : TT} {a : TD} (ha : SimT K E C ta a) (I : EnvOk K G0 H0 G H σ ρ) {f : Bool → Out β} (h : P G H ((a ρ).bind f)) {Q : Bool → Hp → Prop}
    (k : ∀ b G' H', a ρ = .ok b → Grow G H G' H' → EnvOk K G0 H0 G' H' σ ρ → P G' H' (f b) → Q b H') : ta σ H Q := by
  refine ha G0 H0 G H σ ρ Q I ?_
  cases e : a ρ with
  | ok r =>
    rw [e] at h
    intro G' H' g
    exact k r G' H' e g (I.grow g) (F.up (show P G H (f r) from h) g)
  | ex c => rw [e] at h; exact F.ex h
  | st => rw [e] at h; exact (F.st h).elim
end

/-! ### the pieces over the rules of the layer -/
structure SE (X : Cx) (E : XK) (C : CM) (e : Expr) (d : ED) : Prop where
  p : ∃ te, PE X e te ∧ SimE X.K E C te d
structure SA (X : Cx) (E : XK) (C : CM) (e : List Expr) (d : AD) : Prop where
  p : ∃ te, PA X e te ∧ SimA X.K E C te d
structure ST (X : Cx) (E : XK) (C : CM) (e : Expr) (d : TD) : Prop where
  p : ∃ te, PT X e te ∧ SimT X.K E C te d
structure SW (X : Cx) (E : XK) (C : CM) (e : Expr) (d : TD) : Prop where
  p : ∃ te, PW X e te ∧ SimT X.K E C te d
structure SS (X : Cx) (E : XK) (C : CM) (e : Stmt) (d : SD) : Prop where
  p : ∃ te, PS X e te ∧ SimS X.K E C te d
structure SB (X : Cx) (E : XK) (C : CM) (e : List Stmt) (d : SD) : Prop where
  p : ∃ te, PSs X e te ∧ SimS X.K E C te d

theorem getD_some {σ : L2.St} {i : Nat} {v : V} (h : σ.getD i none = some v) : σ[i]? = some (some v) := by
  rw [List.getD_eq_getElem?_getD] at h
  cases e : σ[i]? with
  | none => rw [e] at h; cases h
  | some o => rw [e] at h; exact congrArg some h

def varD (i : Nat) : ED := fun ρ => match ρ[i]? with
  | some (.im d) => .ok (.im d)
  | some (.ow n t) => .ok (.ro n t)
  | _ => .st
@[simp] def cD (d : PD) : ED := fun _ => .ok (.im d)
section
variable {X : Cx} {E : XK} {C : CM}
theorem sim_var {K : PySem.W.Frag} (i : Nat) : SimE K E C (tVar i) (varD i) := by
  intro G0 H0 G H σ ρ Q I h
  obtain ⟨len, b, w, he⟩ := I
  unfold varD at h
  cases e : ρ[i]? with
  | none => rw [e] at h; exact h.elim
  | some x =>
    rw [e] at h
    have q := he i x e
    cases x with
    | no => exact h.elim
    | im d =>
      obtain ⟨v, ev, r⟩ := q
      exact ⟨v, getD_some ev, h v G H (Grow.refl b.s) r⟩
    | ow n t =>
      obtain ⟨y, ev, e2, e3, _⟩ := q
      exact ⟨_, getD_some ev, h _ G H (Grow.refl b.s) ⟨y, e2, rfl, e3⟩⟩
    | vv v => exact h.elim
    | ob a C fs => exact h.elim
theorem se_var (i : Nat) {x : Str} {pos : Pos} (hN : X.N[i]? = some x := by rfl) (hv : Vis X.env.scope x := by first | exact Or.inl rfl | exact Or.inr (Or.inl rfl) | exact Or.inr (Or.inr rfl)) (hd : (x == ("__debug__" : Str)) = false := by decide)
    (hcd : (x == ("__classdict__" : Str)) = false := by decide) : SE X E C (.Name x pos) (varD i) := ⟨_, pe_var hN hv hd hcd, sim_var i⟩
theorem sim_c {K : PySem.W.Frag} {v : V} {d : PD} (h : scV d = some v) : SimE K E C (tC v) (cD d) := fun G0 H0 G H σ ρ Q I q => q v G H (Grow.refl I.s) (rp_sc h)
theorem se_int {i : Int} {j} {pos : Pos} : SE X E C (.Constant (.int i) j pos) (cD (.int i)) := ⟨_, pe_int, sim_c rfl⟩
theorem se_bl {b : Bool} {j} {pos : Pos} : SE X E C (.Constant (.bool b) j pos) (cD (.bool b)) := ⟨_, pe_bl, sim_c rfl⟩
theorem se_non {j} {pos : Pos} : SE X E C (.Constant .none j pos) (cD .none) := ⟨_, pe_non, sim_c rfl⟩
theorem se_str {x : Str} {j} {pos : Pos} : SE X E C (.Constant (.str x) j pos) (cD (.str x)) := ⟨_, pe_str, sim_c rfl⟩
theorem se_globI {x : Str} {i : Int} {t : Tok} {pos : Pos} (hg : Gl X x) (hm : X.mg x = some (.int i t)) (hd : (x == ("__debug__" : Str)) = false := by decide) : SE X E C (.Name x pos) (cD (.int i)) :=
  ⟨_, pe_glob (v := .int i) hg hm ⟨t, rfl⟩ hd, sim_c rfl⟩

/-! ### two operands, read; a flat answer -/
@[simp] def binR (f : PD → PD → Option PD) (a b : ED) : ED := fun ρ => (a ρ).bind fun r1 => (b ρ).bind fun r2 => match f r1.dat r2.dat with
  | some d => .ok (.im d)
  | none => .st
def Lk2 (K : PySem.W.Frag) (r : R2) (f : PD → PD → Option PD) : Prop := ∀ (H : Hp) (x y : V) (d e z : PD) (Q : VK), Rp K H x d → Rp K H y e → f d e = some z → ∃ v, scV z = some v ∧ (Q v H → r x y H Q)
theorem sim_bin {K : PySem.W.Frag} {r : R2} {f : PD → PD → Option PD} {ta tb : TE} {a b : ED} (l : Lk2 K r f) (ha : SimE K E C ta a) (hb : SimE K E C tb b) : SimE K E C (tOp r ta tb) (binR f a b) := by
  intro G0 H0 G H σ ρ Q I h
  refine ha.use famO I h fun r1 x G1 H1 e1 g1 I1 k1 h1 => ?_
  refine hb.use famO I1 h1 fun r2 y G2 H2 e2 g2 I2 k2 h2 => ?_
  cases e : f r1.dat r2.dat with
  | none => rw [e] at h2; exact h2.elim
  | some z =>
    rw [e] at h2
    obtain ⟨v, ev, hr⟩ := l H2 x y _ _ z Q ((k1.rp I1.s).up g2.h) (k2.rp I2.s) e
    exact hr (h2 v G2 H2 (Grow.refl I2.s) (rp_sc ev))
theorem se_op {op : Operator} {r : R2} {f : PD → PD → Option PD} {a b : Expr} {da db : ED} {pos : Pos} (ho : OpR X (binaryOp op) r) (l : Lk2 X.K r f) (ha : SE X E C a da) (hb : SE X E C b db) : SE X E C (.BinOp a op b pos) (binR f da db) := by
  obtain ⟨ta, pa, sa⟩ := ha
  obtain ⟨tb, pb, sb⟩ := hb
  exact ⟨_, pe_op ho pa pb, sim_bin l sa sb⟩
theorem se_cmp {op : CmpOp} {r : R2} {f : PD → PD → Option PD} {a b : Expr} {da db : ED} {pos : Pos} (ho : OpR X (compareOp op) r) (l : Lk2 X.K r f) (ha : SE X E C a da) (hb : SE X E C b db) (hm : behindInMarks op b = false) : SE X E C (.Compare a [op] [b] pos) (binR f da db) := by
  obtain ⟨ta, pa, sa⟩ := ha
  obtain ⟨tb, pb, sb⟩ := hb
  exact ⟨_, pe_cmpR ho pa pb hm, sim_bin l sa sb⟩
/-- a value that is True or False, as a test -/
@[simp] def tstD (a : ED) : TD := fun ρ => (a ρ).bind fun r => match r.dat with
  | .bool b => .ok b
  | _ => .st
theorem sim_tst {K : PySem.W.Frag} {ta : TE} {a : ED} (ha : SimE K E C ta a) : SimT K E C (tTest ta) (tstD a) := by
  intro G0 H0 G H σ ρ Q I h
  refine ha.use famT I h fun r1 x G1 H1 e1 g1 I1 k1 h1 => ?_
  have k := k1.rp I1.s
  cases e : r1.dat with
  | bool b =>
    rw [e] at h1 k
    cases k
    exact ⟨b, rfl, h1 G1 H1 (Grow.refl I1.s)⟩
  | _ => rw [e] at h1; exact h1.elim
theorem st_val {a : Expr} {da : ED} (ha : SE X E C a da) (he : ∀ whole, isTrue a X.env whole = (do let v ← whole; standAt a.pos; holding [v] (truthy v)) := by intro _; rfl) : ST X E C a (tstD da) := by
  obtain ⟨ta, pa, sa⟩ := ha
  exact ⟨_, pt_val pa he, sim_tst sa⟩
theorem st_cmp {op : CmpOp} {r : R2} {f : PD → PD → Option PD} {a b : Expr} {da db : ED} {pos : Pos} (ho : OpR X (compareOp op) r) (l : Lk2 X.K r f) (ha : SE X E C a da) (hb : SE X E C b db) (hm : behindInMarks op b = false) : ST X E C (.Compare a [op] [b] pos) (tstD (binR f da db)) := by
  obtain ⟨ta, pa, sa⟩ := ha
  obtain ⟨tb, pb, sb⟩ := hb
  exact ⟨_, pt_cmpR ho pa pb hm, sim_tst (sim_bin l sa sb)⟩

/-! #### the operators -/
def fI (f : Int → Int → Option PD) : PD → PD → Option PD := fun d e => match d, e with
  | .int i, .int j => f i j
  | _, _ => none
theorem lk_I {K : PySem.W.Frag} {r : R2} {f : Int → Int → Option PD} (h : ∀ (H : Hp) (i j : Int) (z : PD) (Q : VK), f i j = some z → ∃ v, scV z = some v ∧ (Q v H → r (.int i) (.int j) H Q)) : Lk2 K r (fI f) := by
  intro H x y d e z Q hx hy hf
  unfold fI at hf
  split at hf
  · cases hx; cases hy
    exact h H _ _ z Q hf
  · cases hf
def subI : PD → PD → Option PD := fI fun i j => some (.int (i - j))
theorem lk_sub {K : PySem.W.Frag} : Lk2 K (rI0 fun i j => .int (i - j)) subI := lk_I fun H i j z Q e => by
  cases e
  exact ⟨_, rfl, fun q => ⟨i, j, rfl, rfl, q⟩⟩
noncomputable def mulI : PD → PD → Option PD := fI fun i j => @ite _ ((-(2 ^ 64) < i ∧ i < 2 ^ 64) ∨ (-(2 ^ 64) < j ∧ j < 2 ^ 64)) (Classical.propDecidable _) (some (.int (i * j))) none
theorem lk_mul {K : PySem.W.Frag} : Lk2 K (rI CMul fun i j => .int (i * j)) mulI := lk_I fun H i j z Q e => by
  split at e
  · rename_i c
    cases e
    exact ⟨_, rfl, fun q => ⟨i, j, rfl, rfl, c, q⟩⟩
  · cases e
noncomputable def divI : PD → PD → Option PD := fI fun i j => @ite _ (0 < j ∧ j < 1073741824) (Classical.propDecidable _) (some (.int (i / j))) none
theorem lk_div {K : PySem.W.Frag} : Lk2 K (rI CDiv fun i j => .int (i / j)) divI := lk_I fun H i j z Q e => by
  split at e
  · rename_i c
    cases e
    exact ⟨_, rfl, fun q => ⟨i, j, rfl, rfl, c, q⟩⟩
  · cases e
def modI : PD → PD → Option PD := fI fun i j => if 0 < j then some (.int (i % j)) else none
theorem lk_mod {K : PySem.W.Frag} : Lk2 K (rI (fun _ j => 0 < j) fun i j => .int (i % j)) modI := lk_I fun H i j z Q e => by
  split at e
  · rename_i c
    cases e
    exact ⟨_, rfl, fun q => ⟨i, j, rfl, rfl, c, q⟩⟩
  · cases e
def ltI : PD → PD → Option PD := fI fun i j => some (.bool (decide (i < j)))
def leI : PD → PD → Option PD := fI fun i j => some (.bool (decide (i ≤ j)))
def gtI : PD → PD → Option PD := fI fun i j => some (.bool (decide (j < i)))
def geI : PD → PD → Option PD := fI fun i j => some (.bool (decide (j ≤ i)))
theorem lk_lt {K : PySem.W.Frag} : Lk2 K (rI0 fun i j => .bl (decide (i < j))) ltI := lk_I fun H i j z Q e => by
  cases e
  exact ⟨_, rfl, fun q => ⟨i, j, rfl, rfl, q⟩⟩
theorem lk_le {K : PySem.W.Frag} : Lk2 K (rI0 fun i j => .bl (decide (i ≤ j))) leI := lk_I fun H i j z Q e => by
  cases e
  exact ⟨_, rfl, fun q => ⟨i, j, rfl, rfl, q⟩⟩
theorem lk_gt {K : PySem.W.Frag} : Lk2 K (rI0 fun i j => .bl (decide (j < i))) gtI := lk_I fun H i j z Q e => by
  cases e
  exact ⟨_, rfl, fun q => ⟨i, j, rfl, rfl, q⟩⟩
theorem lk_ge {K : PySem.W.Frag} : Lk2 K (rI0 fun i j => .bl (decide (j ≤ i))) geI := lk_I fun H i j z Q e => by
  cases e
  exact ⟨_, rfl, fun q => ⟨i, j, rfl, rfl, q⟩⟩
/-- data that may be compared -/
def shp (d : PD) : Bool := noD d && SeqAt.shaped d
def eqF : PD → PD → Option PD := fun d e => if shp d && shp e then some (.bool (PyData.eqv d e)) else none
def neF : PD → PD → Option PD := fun d e => if shp d && shp e then some (.bool (!PyData.eqv d e)) else none
theorem lk_eq {K : PySem.W.Frag} : Lk2 K (rEqD K) eqF := by
  intro H x y d e z Q hx hy hf
  unfold eqF at hf
  split at hf
  · rename_i c
    cases hf
    simp only [shp, Bool.and_eq_true] at c
    exact ⟨_, rfl, fun q => ⟨d, e, hx.dp _ _ c.1.1, hy.dp _ _ c.2.1, c.1.2, c.2.2, q⟩⟩
  · cases hf
theorem lk_ne {K : PySem.W.Frag} : Lk2 K (rNeD K) neF := by
  intro H x y d e z Q hx hy hf
  unfold neF at hf
  split at hf
  · rename_i c
    cases hf
    simp only [shp, Bool.and_eq_true] at c
    exact ⟨_, rfl, fun q => ⟨d, e, hx.dp _ _ c.1.1, hy.dp _ _ c.2.1, c.1.2, c.2.2, q⟩⟩
  · cases hf
def inF : PD → PD → Option PD := fun d e => match e with
  | .list ds => if shp d && shp (.list ds) then some (.bool (ds.any fun z => PyData.eqv z d)) else none
  | _ => none
def niF : PD → PD → Option PD := fun d e => match e with
  | .list ds => if shp d && shp (.list ds) then some (.bool (!ds.any fun z => PyData.eqv z d)) else none
  | _ => none
theorem lk_in {K : PySem.W.Frag} : Lk2 K (rInD K) inF := by
  intro H x y d e z Q hx hy hf
  unfold inF at hf
  split at hf
  · rename_i ds
    split at hf
    · rename_i c
      cases hf
      simp only [shp, Bool.and_eq_true] at c
      exact ⟨_, rfl, fun q => ⟨d, ds, hx.dp _ _ c.1.1, hy.dp _ _ c.2.1, c.1.2, c.2.2, q⟩⟩
    · cases hf
  · cases hf
theorem lk_ni {K : PySem.W.Frag} : Lk2 K (rNotInD K) niF := by
  intro H x y d e z Q hx hy hf
  unfold niF at hf
  split at hf
  · rename_i ds
    split at hf
    · rename_i c
      cases hf
      simp only [shp, Bool.and_eq_true] at c
      exact ⟨_, rfl, fun q => ⟨d, ds, hx.dp _ _ c.1.1, hy.dp _ _ c.2.1, c.1.2, c.2.2, q⟩⟩
    · cases hf
  · cases hf
def isN : PD → Bool
  | .none => true
  | _ => false
def isNF : PD → PD → Option PD := fun d e => match e with
  | .none => some (.bool (isN d))
  | _ => none
def nNF : PD → PD → Option PD := fun d e => match e with
  | .none => some (.bool (!isN d))
  | _ => none
theorem rp_isN {K : PySem.W.Frag} {H : Hp} {x : V} {d : PD} (h : Rp K H x d) : decide (x = .non) = isN d := by cases h <;> simp [isN]
theorem lk_isN {K : PySem.W.Frag} : Lk2 K (fun x y H Q => y = .non ∧ Q (.bl (decide (x = .non))) H) isNF := by
  intro H x y d e z Q hx hy hf
  unfold isNF at hf
  split at hf
  · cases hf
    cases hy
    exact ⟨_, rfl, fun q => ⟨rfl, by rw [rp_isN hx]; exact q⟩⟩
  · cases hf
theorem lk_nN {K : PySem.W.Frag} : Lk2 K (fun x y H Q => y = .non ∧ Q (.bl (!decide (x = .non))) H) nNF := by
  intro H x y d e z Q hx hy hf
  unfold nNF at hf
  split at hf
  · cases hf
    cases hy
    exact ⟨_, rfl, fun q => ⟨rfl, by rw [rp_isN hx]; exact q⟩⟩
  · cases hf

/-! #### one operand -/
@[simp] def unR (f : PD → Option PD) (a : ED) : ED := fun ρ => (a ρ).bind fun r => match f r.dat with
  | some d => .ok (.im d)
  | none => .st
def negI : PD → Option PD
  | .int i => some (.int (-i))
  | _ => none
theorem se_neg {a : Expr} {da : ED} {pos : Pos} (ha : SE X E C a da) : SE X E C (.UnaryOp .USub a pos) (unR negI da) := by
  obtain ⟨ta, pa, sa⟩ := ha
  refine ⟨_, pe_un un_neg pa, ?_⟩
  intro G0 H0 G H σ ρ Q I h
  refine sa.use famO I h fun r1 x G1 H1 e1 g1 I1 k1 h1 => ?_
  have k := k1.rp I1.s
  cases e : r1.dat with
  | int i =>
    rw [e] at h1 k
    cases k
    exact ⟨i, rfl, h1 _ G1 H1 (Grow.refl I1.s) (.int _)⟩
  | _ => rw [e] at h1; exact h1.elim

/-! #### a chain of two comparisons -/
@[simp] def chnD (f f' : PD → PD → Option PD) (a b c : ED) : ED := fun ρ => (a ρ).bind fun r1 => (b ρ).bind fun r2 => match f r1.dat r2.dat with
  | some (.bool true) => (c ρ).bind fun r3 => match f' r2.dat r3.dat with
    | some d => .ok (.im d)
    | none => .st
  | some (.bool false) => .ok (.im (.bool false))
  | _ => .st
theorem sim_chn {K : PySem.W.Frag} {r r' : R2} {f f' : PD → PD → Option PD} {ta tb tc : TE} {da db dc : ED} (l : Lk2 K r f) (l' : Lk2 K r' f') (sa : SimE K E C ta da) (sb : SimE K E C tb db) (sc : SimE K E C tc dc) : SimE K E C (tChain r r' ta tb tc) (chnD f f' da db dc) := by
  intro G0 H0 G H σ ρ Q I h
  refine sa.use famO I h fun r1 x G1 H1 e1 g1 I1 k1 h1 => ?_
  refine sb.use famO I1 h1 fun r2 y G2 H2 e2 g2 I2 k2 h2 => ?_
  cases e : f r1.dat r2.dat with
  | none => rw [e] at h2; exact h2.elim
  | some z =>
    rw [e] at h2
    obtain ⟨v, ev, hr⟩ := l H2 x y _ _ z (fun z H3 => ∃ k, z = .bl k ∧ (if k = true then tc σ H3 fun w' H4 => r' y w' H4 Q else Q (.bl false) H3)) ((k1.rp I1.s).up g2.h) (k2.rp I2.s) e
    refine hr ?_
    cases z with
    | bool b =>
      cases ev
      refine ⟨b, rfl, ?_⟩
      cases b with
      | true =>
        show tc σ H2 fun w' H4 => r' y w' H4 Q
        refine sc.use famO I2 h2 fun r3 w G3 H3 e3 g3 I3 k3 h3 => ?_
        cases e' : f' r2.dat r3.dat with
        | none => rw [e'] at h3; exact h3.elim
        | some z =>
          rw [e'] at h3
          obtain ⟨v, ev, hr⟩ := l' H3 y w _ _ z Q ((k2.rp I2.s).up g3.h) (k3.rp I3.s) e'
          exact hr (h3 v G3 H3 (Grow.refl I3.s) (rp_sc ev))
      | false => exact h2 _ G2 H2 (Grow.refl I2.s) (.bl false)
    | _ => exact h2.elim

theorem se_chn {op op' : CmpOp} {r r' : R2} {f f' : PD → PD → Option PD} {a b c : Expr} {da db dc : ED} {pos : Pos} (ho : OpR X (compareOp op) r) (ho' : OpR X (compareOp op') r') (l : Lk2 X.K r f) (l' : Lk2 X.K r' f')
    (ha : SE X E C a da) (hb : SE X E C b db) (hc : SE X E C c dc) (hm : lastMarks [op, op'] [b, c] = false := by rfl) : SE X E C (.Compare a [op, op'] [b, c] pos) (chnD f f' da db dc) := by
  obtain ⟨ta, pa, sa⟩ := ha
  obtain ⟨tb, pb, sb⟩ := hb
  obtain ⟨tc, pc, sc⟩ := hc
  exact ⟨_, pe_chain ho ho' pa pb pc hm, sim_chn l l' sa sb sc⟩
theorem st_chn {op op' : CmpOp} {r r' : R2} {f f' : PD → PD → Option PD} {a b c : Expr} {da db dc : ED} {pos : Pos} (ho : OpR X (compareOp op) r) (ho' : OpR X (compareOp op') r') (l : Lk2 X.K r f) (l' : Lk2 X.K r' f')
    (ha : SE X E C a da) (hb : SE X E C b db) (hc : SE X E C c dc) (hm : lastMarks [op, op'] [b, c] = false := by rfl) : ST X E C (.Compare a [op, op'] [b, c] pos) (tstD (chnD f f' da db dc)) := by
  have key : ∀ ta tb tc, PE X a ta → PE X b tb → PE X c tc → PT X (.Compare a [op, op'] [b, c] pos) (tTest (tChain r r' ta tb tc)) := fun ta tb tc pa pb pc => pt_chain ho ho' pa pb pc hm
  obtain ⟨ta, pa, sa⟩ := ha
  obtain ⟨tb, pb, sb⟩ := hb
  obtain ⟨tc, pc, sc⟩ := hc
  exact ⟨_, key ta tb tc pa pb pc, sim_tst (sim_chn l l' sa sb sc)⟩
/-! #### and, or, not -/
@[simp] def andD (a b : ED) : ED := fun ρ => (a ρ).bind fun r => match r.dat with
  | .bool true => b ρ
  | .bool false => .ok (.im (.bool false))
  | _ => .st
@[simp] def orD (a b : ED) : ED := fun ρ => (a ρ).bind fun r => match r.dat with
  | .bool false => b ρ
  | .bool true => .ok (.im (.bool true))
  | _ => .st
@[simp] def notD (a : ED) : ED := fun ρ => (a ρ).bind fun r => match r.dat with
  | .bool b => .ok (.im (.bool (!b)))
  | _ => .st
theorem se_and {a b : Expr} {rest : List Expr} {da db : ED} {pos : Pos} (ha : SE X E C a da) (hb : SE X E C (.BoolOp .And (b :: rest) pos) db) : SE X E C (.BoolOp .And (a :: b :: rest) pos) (andD da db) := by
  obtain ⟨ta, pa, sa⟩ := ha
  obtain ⟨tb, pb, sb⟩ := hb
  refine ⟨_, pe_and pa pb, ?_⟩
  intro G0 H0 G H σ ρ Q I h
  refine sa.use famO I h fun r1 x G1 H1 e1 g1 I1 k1 h1 => ?_
  have k := k1.rp I1.s
  cases e : r1.dat with
  | bool c =>
    rw [e] at h1 k
    cases k
    refine ⟨c, rfl, ?_⟩
    cases c with
    | true => exact sb G0 H0 G1 H1 σ ρ Q I1 h1
    | false => exact h1 _ G1 H1 (Grow.refl I1.s) (.bl false)
  | _ => rw [e] at h1; exact h1.elim
theorem se_or {a b : Expr} {rest : List Expr} {da db : ED} {pos : Pos} (ha : SE X E C a da) (hb : SE X E C (.BoolOp .Or (b :: rest) pos) db) : SE X E C (.BoolOp .Or (a :: b :: rest) pos) (orD da db) := by
  obtain ⟨ta, pa, sa⟩ := ha
  obtain ⟨tb, pb, sb⟩ := hb
  refine ⟨_, pe_or pa pb, ?_⟩
  intro G0 H0 G H σ ρ Q I h
  refine sa.use famO I h fun r1 x G1 H1 e1 g1 I1 k1 h1 => ?_
  have k := k1.rp I1.s
  cases e : r1.dat with
  | bool c =>
    rw [e] at h1 k
    cases k
    refine ⟨c, rfl, ?_⟩
    cases c with
    | false => exact sb G0 H0 G1 H1 σ ρ Q I1 h1
    | true => exact h1 _ G1 H1 (Grow.refl I1.s) (.bl true)
  | _ => rw [e] at h1; exact h1.elim
theorem se_one {op} {a : Expr} {da : ED} {pos : Pos} (ha : SE X E C a da) : SE X E C (.BoolOp op [a] pos) da := by
  obtain ⟨ta, pa, sa⟩ := ha
  exact ⟨_, pe_one pa, sa⟩
theorem se_not {a : Expr} {da : ED} {pos : Pos} (ha : SE X E C a da) : SE X E C (.UnaryOp .Not a pos) (notD da) := by
  obtain ⟨ta, pa, sa⟩ := ha
  refine ⟨_, pe_not pa, ?_⟩
  intro G0 H0 G H σ ρ Q I h
  refine sa.use famO I h fun r1 x G1 H1 e1 g1 I1 k1 h1 => ?_
  have k := k1.rp I1.s
  cases e : r1.dat with
  | bool c =>
    rw [e] at h1 k
    cases k
    exact ⟨c, rfl, h1 _ G1 H1 (Grow.refl I1.s) (.bl _)⟩
  | _ => rw [e] at h1; exact h1.elim
@[simp] def andT (a b : TD) : TD := fun ρ => (a ρ).bind fun c => if c = true then b ρ else .ok false
@[simp] def orT (a b : TD) : TD := fun ρ => (a ρ).bind fun c => if c = true then .ok true else b ρ
@[simp] def notT (a : TD) : TD := fun ρ => (a ρ).bind fun c => .ok (!c)
theorem sw_and {a b : Expr} {rest : List Expr} {da db : TD} {pos : Pos} (ha : ST X E C a da) (hb : SW X E C (.BoolOp .And (b :: rest) pos) db) : SW X E C (.BoolOp .And (a :: b :: rest) pos) (andT da db) := by
  obtain ⟨ta, pa, sa⟩ := ha
  obtain ⟨tb, pb, sb⟩ := hb
  refine ⟨_, pw_and pa pb, ?_⟩
  intro G0 H0 G H σ ρ Q I h
  refine sa.use famT I h fun c G1 H1 e1 g1 I1 h1 => ?_
  cases c with
  | true => exact sb G0 H0 G1 H1 σ ρ Q I1 h1
  | false => exact h1 G1 H1 (Grow.refl I1.s)
theorem sw_or {a b : Expr} {rest : List Expr} {da db : TD} {pos : Pos} (ha : ST X E C a da) (hb : SW X E C (.BoolOp .Or (b :: rest) pos) db) : SW X E C (.BoolOp .Or (a :: b :: rest) pos) (orT da db) := by
  obtain ⟨ta, pa, sa⟩ := ha
  obtain ⟨tb, pb, sb⟩ := hb
  refine ⟨_, pw_or pa pb, ?_⟩
  intro G0 H0 G H σ ρ Q I h
  refine sa.use famT I h fun c G1 H1 e1 g1 I1 h1 => ?_
  cases c with
  | false => exact sb G0 H0 G1 H1 σ ρ Q I1 h1
  | true => exact h1 G1 H1 (Grow.refl I1.s)
theorem sw_and1 {a : Expr} {da : TD} {pos : Pos} (ha : ST X E C a da) : SW X E C (.BoolOp .And [a] pos) da := by
  obtain ⟨ta, pa, sa⟩ := ha
  exact ⟨_, pw_and1 pa, sa⟩
theorem sw_or1 {a : Expr} {da : TD} {pos : Pos} (ha : ST X E C a da) : SW X E C (.BoolOp .Or [a] pos) da := by
  obtain ⟨ta, pa, sa⟩ := ha
  exact ⟨_, pw_or1 pa, sa⟩
theorem SW.t {a : Expr} {da : TD} (ha : SW X E C a da) : ST X E C a da := by
  obtain ⟨ta, pa, sa⟩ := ha
  exact ⟨_, pa.pt, sa⟩
theorem st_not {a : Expr} {da : TD} {pos : Pos} (ha : ST X E C a da) : ST X E C (.UnaryOp .Not a pos) (notT da) := by
  obtain ⟨ta, pa, sa⟩ := ha
  refine ⟨_, pt_not pa, ?_⟩
  intro G0 H0 G H σ ρ Q I h
  exact sa.use famT I h fun c G1 H1 e1 g1 I1 h1 => h1 G1 H1 (Grow.refl I1.s)
end
end Z

/-! ## Z4 -/
set_option Elab.async false
set_option linter.all false
set_option maxRecDepth 100000
set_option maxHeartbeats 2000000
namespace Z
open PySem PySem.Spec PyProof.Rows L2

/-! ### a new result becomes known -/
def R.fz : R → R
  | .fr n t => .im (Ty.dat (n + 1) t)
  | r => r
theorem R.fz_dat (r : R) : r.fz.dat = r.dat := by cases r <;> rfl
/-- the outcome of a, with its new lists known for ever -/
theorem SimE.useF {K : PySem.W.Frag} {E : XK} {C : CM} {G0 H0 G H : Hp} {σ : L2.St} {ρ : Env} {β : Type} {P : Hp → Hp → Out β → Prop} (F : Fam E C P) {ta : TE} {a : ED} (ha : SimE K E C ta a) (I : EnvOk K G0 H0 G H σ ρ) {f : R → Out β} (h : P G H ((a ρ).bind f)) {Q : VK}
    (k : ∀ r v G' H', a ρ = .ok r → Grow G H G' H' → EnvOk K G0 H0 G' H' σ ρ → ROk K hpE G' H' r.fz v → P G' H' (f r) → Q v H') : ta σ H Q := by
  refine ha G0 H0 G H σ ρ Q I ?_
  cases e : a ρ with
  | ok r =>
    rw [e] at h
    intro v G' H' g hr
    cases r with
    | im d => exact k _ v G' H' e g (I.grow g) hr (F.up (show P G H (f _) from h) g)
    | ro n t => exact k _ v G' H' e g (I.grow g) hr (F.up (show P G H (f _) from h) g)
    | fr n t =>
      obtain ⟨G2, s2, g2, r2⟩ := hr.freeze g.s g
      exact k _ v G2 H' e g2 (I.grow g2) r2 (F.up (show P G H (f _) from h) g2)
  | ex c => rw [e] at h; exact F.ex h
  | st => rw [e] at h; exact (F.st h).elim

/-! ### arguments: each one's new lists become known -/
@[simp] def nilA : AD := fun _ => .ok []
@[simp] def consA (e : ED) (r : AD) : AD := fun ρ => (e ρ).bind fun x => (r ρ).bind fun xs => .ok (x.fz :: xs)
section
variable {X : Cx} {E : XK} {C : CM}
theorem sa_nil : SA X E C [] nilA := ⟨_, pa_nil, fun G0 H0 G H σ ρ Q I h => h [] G H (Grow.refl I.s) .nil⟩
theorem sa_cons {e : Expr} {es : List Expr} {d : ED} {r : AD} (he : SE X E C e d) (hr : SA X E C es r) (hs : starEach (e :: es) X.env = (false, eval e X.env) :: starEach es X.env := by rfl) : SA X E C (e :: es) (consA d r) := by
  obtain ⟨ta, pa, sa⟩ := he
  obtain ⟨tb, pb, sb⟩ := hr
  refine ⟨_, pa_cons pa pb hs, ?_⟩
  intro G0 H0 G H σ ρ Q I h
  refine sa.useF famA I h fun r1 x G1 H1 e1 g1 I1 k1 h1 => ?_
  refine sb.use famA I1 h1 fun r2 y G2 H2 e2 g2 I2 k2 h2 => ?_
  exact h2 (x :: y) G2 H2 (Grow.refl I2.s) (.cons (k1.grow g2) k2)
theorem ROkA.rp {K : PySem.W.Frag} {H0 G H : Hp} {rs : List R} {vs : List V} (s : Same G H) (h : ROkA K H0 G H rs vs) : RpA K H vs (rs.map R.dat) := by
  induction h with
  | nil => exact .nil
  | cons a _ ih => exact .cons (a.rp s) ih

/-! ### displays -/
/-- all known for ever -/
def ims : List R → Option (List PD)
  | [] => some []
  | .im d :: rs => (ims rs).map (d :: ·)
  | _ => none
theorem ROkA.ims {K : PySem.W.Frag} {H0 G H : Hp} {rs : List R} {vs : List V} {ds : List PD} (h : ROkA K H0 G H rs vs) (e : ims rs = some ds) : RpA K G vs ds := by
  induction h generalizing ds with
  | nil => cases e; exact .nil
  | @cons r rs v vs a _ ih =>
    cases r with
    | im d =>
      simp only [Z.ims, Option.map_eq_some_iff] at e
      obtain ⟨es, e1, e2⟩ := e
      subst e2
      exact .cons a (ih e1)
    | ro n t => simp [Z.ims] at e
    | fr n t => simp [Z.ims] at e
/-- a new list of known things -/
theorem fresh_list {K : PySem.W.Frag} {G H : Hp} {vs : List V} {ds : List PD} {p : Addr} (h : RpA K G vs ds) (hp : H p = none) (s : Same G H) : ROk K H G (upd H p (.lst vs)) (.fr 0 ds) (.ref p) := by
  have hl := h.length
  refine ⟨((p, vs.zip ds) : Addr × List (V × PD)), ?_, rfl, ⟨?_, ?_⟩, ?_, ?_⟩
  · show (vs.zip ds).map (fun x => x.2) = ds
    rw [List.map_snd_zip (by omega)]
  · show upd H p (.lst vs) p = some (.lst ((vs.zip ds).map (fun x => x.1)))
    rw [upd_same, List.map_fst_zip (by omega)]
  · have key : ∀ y ∈ (vs.zip ds : List (V × PD)), Rp K G y.1 y.2 := by
      intro y hy
      obtain ⟨i, hi⟩ := List.mem_iff_getElem?.mp hy
      rw [List.getElem?_zip_eq_some] at hi
      obtain ⟨d, e1, e2⟩ := h.get hi.1
      rw [hi.2] at e1
      cases e1
      exact e2
    exact key
  · have key : ∀ l : List (V × PD), l.Pairwise fun y z => ∀ a ∈ ATy.adr 0 y, a ∉ ATy.adr 0 z := fun l => List.pairwise_of_forall (fun _ _ a ha => nomatch ha)
    exact ⟨fun y _ => ⟨trivial, fun h => nomatch h⟩, key _⟩
  · intro a ha
    have e : a = p := by
      have : a ∈ (p :: (vs.zip ds).flatMap (fun _ => ([] : List Addr))) := ha
      simpa using this
    subst e
    exact ⟨hp, s.free hp⟩
def small : Nat := 100000
theorem le_line {n : Nat} (h : n ≤ 100000) : n ≤ sizeLine := Nat.le_trans h (by decide)
theorem lt_line {n : Nat} (h : n ≤ 100000) : n < sizeLine := Nat.lt_of_le_of_lt h (by decide)
@[simp] def lstD (a : AD) : ED := fun ρ => (a ρ).bind fun rs => match ims rs with
  | some ds => if ds.length ≤ 100000 then .ok (.fr 0 ds) else .st
  | none => .st
@[simp] def tupD (a : AD) : ED := fun ρ => (a ρ).bind fun rs => match ims rs with
  | some ds => if ds.length ≤ 100000 then .ok (.im (.tuple ds)) else .st
  | none => .st
theorem se_lst {es : List Expr} {a : AD} {pos : Pos} (ha : SA X E C es a) : SE X E C (.List es pos) (lstD a) := by
  obtain ⟨ta, pa, sa⟩ := ha
  refine ⟨_, pe_lst pa, ?_⟩
  intro G0 H0 G H σ ρ Q I h
  refine sa.use famO I h fun rs vs G1 H1 e1 g1 I1 k1 h1 => ?_
  cases e : ims rs with
  | none => rw [e] at h1; exact h1.elim
  | some ds =>
    simp only [e] at h1
    have k := k1.ims e
    have hl := k.length
    by_cases c : ds.length ≤ 100000
    · rw [if_pos c] at h1
      refine ⟨by rw [hl]; exact le_line c, fun p hp => ?_⟩
      exact h1 _ G1 _ (Grow.new I1.s hp) (fresh_list k hp I1.s)
    · rw [if_neg c] at h1; exact h1.elim
theorem se_tup {es : List Expr} {a : AD} {x1} {pos : Pos} (ha : SA X E C es a) : SE X E C (.Tuple es x1 pos) (tupD a) := by
  obtain ⟨ta, pa, sa⟩ := ha
  refine ⟨_, pe_tup pa, ?_⟩
  intro G0 H0 G H σ ρ Q I h
  refine sa.use famO I h fun rs vs G1 H1 e1 g1 I1 k1 h1 => ?_
  cases e : ims rs with
  | none => rw [e] at h1; exact h1.elim
  | some ds =>
    simp only [e] at h1
    have k := k1.ims e
    have hl := k.length
    by_cases c : ds.length ≤ 100000
    · rw [if_pos c] at h1
      refine ⟨by rw [hl]; exact le_line c, fun p hp => ?_⟩
      exact h1 _ _ _ (Grow.newK I1.s hp) (.tup upd_same (k.up (same_upd (I1.s.free hp))))
    · rw [if_neg c] at h1; exact h1.elim

/-! ### the items of a list -/
/-- the items, known for ever, of a list that is known or owned -/
def kids : R → Option (List PD)
  | .im (.list ds) => some ds
  | .ro 0 t => some t
  | _ => none
theorem ROk.kids {K : PySem.W.Frag} {H0 G H : Hp} {r : R} {v : V} {ds : List PD} (s : Same G H) (h : ROk K H0 G H r v) (e : kids r = some ds) : ∃ a vs, v = .ref a ∧ H a = some (.lst vs) ∧ RpA K G vs ds := by
  cases r with
  | im d =>
    cases d <;> simp [Z.kids] at e
    subst e
    cases h with
    | lst h1 h2 => exact ⟨_, _, rfl, s _ _ h1, h2⟩
  | ro n t =>
    cases n with
    | zero =>
      have e' : t = ds := Option.some.inj e
      subst e'
      obtain ⟨x, e1, e2, e3, e4⟩ := h
      refine ⟨x.1, x.2.map (fun y : V × PD => y.1), e2.symm, e3, ?_⟩
      subst e1
      show RpA K G (x.2.map (fun y : V × PD => y.1)) (x.2.map (fun y : V × PD => y.2))
      have e4' : ∀ y ∈ (x.2 : List (V × PD)), Rp K G y.1 y.2 := e4
      generalize (x.2 : List (V × PD)) = l at e4'
      induction l with
      | nil => exact .nil
      | cons z l ih => exact .cons (e4' z List.mem_cons_self) (ih fun y hy => e4' y (List.mem_cons_of_mem _ hy))
    | succ n => simp [Z.kids] at e
  | fr n t => simp [Z.kids] at e

/-! ### + -/
@[simp] def addD (a b : ED) : ED := fun ρ => (a ρ).bind fun r1 => (b ρ).bind fun r2 => match r1.dat, r2.dat with
  | .int i, .int j => .ok (.im (.int (i + j)))
  | .str x, .str y => if x.length + y.length ≤ 100000 then .ok (.im (.str (x ++ y))) else .st
  | _, _ => match kids r1.fz, kids r2.fz with
    | some ds, some es => if ds.length + es.length ≤ 100000 then .ok (.fr 0 (ds ++ es)) else .st
    | _, _ => .st
def rAddA : R2 := fun x y H Q => (∃ i j, x = .int i ∧ y = .int j ∧ Q (.int (i + j)) H) ∨ (∃ i j, x = .str i ∧ y = .str j ∧ i.length + j.length ≤ sizeLine ∧ Q (.str (i ++ j)) H) ∨ rCat x y H Q
theorem op_addA : OpR X (binaryOp .Add) rAddA := by
  intro pins s σ H x y v u Q I rx ry h
  rcases h with h | h | h
  · exact op_add pins s σ H x y v u Q I rx ry h
  · exact op_add_str pins s σ H x y v u Q I rx ry h
  · exact op_cat pins s σ H x y v u Q I rx ry h
theorem se_add {a b : Expr} {da db : ED} {pos : Pos} (ha : SE X E C a da) (hb : SE X E C b db) : SE X E C (.BinOp a .Add b pos) (addD da db) := by
  obtain ⟨ta, pa, sa⟩ := ha
  obtain ⟨tb, pb, sb⟩ := hb
  refine ⟨_, pe_op op_addA pa pb, ?_⟩
  intro G0 H0 G H σ ρ Q I h
  refine sa.useF famO I h fun r1 x G1 H1 e1 g1 I1 k1 h1 => ?_
  refine sb.useF famO I1 h1 fun r2 y G2 H2 e2 g2 I2 k2 h2 => ?_
  have k1' := k1.grow g2
  have p1 := k1'.rp I2.s
  have p2 := k2.rp I2.s
  rw [R.fz_dat] at p1 p2
  split at h2
  · rename_i i j q1 q2
    rw [q1] at p1; rw [q2] at p2
    cases p1; cases p2
    exact .inl ⟨i, j, rfl, rfl, h2 _ G2 H2 (Grow.refl I2.s) (.int _)⟩
  · rename_i i j q1 q2
    rw [q1] at p1; rw [q2] at p2
    cases p1; cases p2
    split at h2
    · rename_i c
      exact .inr (.inl ⟨i, j, rfl, rfl, le_line c, h2 _ G2 H2 (Grow.refl I2.s) (.str _)⟩)
    · exact h2.elim
  · split at h2
    · rename_i ds es q1 q2
      split at h2
      · rename_i c
        obtain ⟨p, vs, rfl, hp, rv⟩ := k1'.kids I2.s q1
        obtain ⟨q, us, rfl, hq, ru⟩ := k2.kids I2.s q2
        have l1 := rv.length
        have l2 := ru.length
        exact .inr (.inr ⟨p, q, vs, us, rfl, rfl, hp, hq, le_line (by omega), fun l hl => h2 _ G2 _ (Grow.new I2.s hl) (fresh_list (rv.append ru) hl I2.s)⟩)
      · exact h2.elim
    · exact h2.elim

/-! ### an item, a slice -/
def ixF : R → Int → Option R
  | .im (.list ds), i => (atI ds i).map .im
  | .im (.tuple ds), i => (atI ds i).map .im
  | .im (.dict [(.none, .list ds)]), i => (atI ds i).map .im
  | .im (.str z), i => if z.length ≤ 100000 then (atI z.cps.toList i).map fun c => .im (.str ⟨#[c]⟩) else none
  | .ro 0 t, i => (atI t i).map .im
  | .ro (n + 1) t, i => (atI t i).map (.ro n)
  | _, _ => none
@[simp] def ixD (a b : ED) : ED := fun ρ => (a ρ).bind fun r1 => (b ρ).bind fun r2 => match r2.dat with
  | .int i => match ixF r1.fz i with
    | some r => .ok r
    | none => .st
  | _ => .st
theorem atI_map {α β : Type} (f : α → β) (xs : List α) (i : Int) : atI (xs.map f) i = (atI xs i).map f := by
  unfold atI
  rw [List.length_map]
  cases ixN xs.length i with
  | none => rfl
  | some j => simp
theorem RpA.at {K : PySem.W.Frag} {G : Hp} {vs : List V} {ds : List PD} {i : Int} {d : PD} (h : RpA K G vs ds) (e : atI ds i = some d) : ∃ v, atI vs i = some v ∧ Rp K G v d := by
  unfold atI at e ⊢
  rw [h.length]
  cases q : ixN ds.length i with
  | none => rw [q] at e; cases e
  | some j =>
    rw [q] at e
    exact h.getD e
theorem ixF_ok {K : PySem.W.Frag} {H0 G H : Hp} {r z : R} {v : V} {i : Int} {Q : VK} (s : Same G H) (h : ROk K H0 G H r v) (e : ixF r i = some z) (q : ∀ y, ROk K H0 G H z y → Q y H) : rIx K v (.int i) H Q := by
  unfold ixF at e
  split at e
  · obtain ⟨d, e1, e2⟩ := Option.map_eq_some_iff.mp e
    subst e2
    cases h with
    | lst h1 h2 =>
      obtain ⟨y, ey, ry⟩ := h2.at e1
      exact .inl ⟨_, _, i, y, rfl, rfl, SqL.of (s _ _ h1), ey, q y ry⟩
  · obtain ⟨d, e1, e2⟩ := Option.map_eq_some_iff.mp e
    subst e2
    cases h with
    | tup h1 h2 =>
      obtain ⟨y, ey, ry⟩ := h2.at e1
      exact .inr (.inl ⟨_, _, i, y, rfl, rfl, SqT.of (s _ _ h1), ey, q y ry⟩)
  · obtain ⟨d, e1, e2⟩ := Option.map_eq_some_iff.mp e
    subst e2
    cases h with
    | scr ns h1 =>
      rw [atI_map] at e1
      obtain ⟨j, e3, e4⟩ := Option.map_eq_some_iff.mp e1
      subst e4
      exact .inl ⟨_, _, i, .int j, rfl, rfl, s.seq h1, by rw [atI_map, e3]; rfl, q _ (.int j)⟩
  · split at e
    · rename_i z0 i0 c
      obtain ⟨d, e1, e2⟩ := Option.map_eq_some_iff.mp e
      subst e2
      cases h
      exact .inr (.inr ⟨_, i, d, rfl, rfl, le_line c, e1, q _ (.str _)⟩)
    · cases e
  · rename_i t
    obtain ⟨d, e1, e2⟩ := Option.map_eq_some_iff.mp e
    subst e2
    obtain ⟨a, vs, rfl, ha, rv⟩ := ROk.kids s h (ds := t) rfl
    obtain ⟨y, ey, ry⟩ := rv.at e1
    exact .inl ⟨a, vs, i, y, rfl, rfl, SqL.of ha, ey, q y ry⟩
  · rename_i n t
    obtain ⟨d, e1, e2⟩ := Option.map_eq_some_iff.mp e
    subst e2
    obtain ⟨x, ex, rfl, hx, hk⟩ := h
    subst ex
    have e1' : atI ((x.2 : List (ATy (n + 1))).map (ATy.era (n + 1))) i = some d := e1
    rw [atI_map] at e1'
    obtain ⟨y, e3, e4⟩ := Option.map_eq_some_iff.mp e1'
    have hm : y ∈ (x.2 : List (ATy (n + 1))) := by
      unfold atI at e3
      cases q0 : ixN (x.2 : List (ATy (n + 1))).length i with
      | none => rw [q0] at e3; cases e3
      | some j => rw [q0] at e3; exact List.mem_of_getElem? e3
    exact .inl ⟨x.1, _, i, ATy.val (n + 1) y, rfl, rfl, SqL.of hx, by rw [atI_map, e3]; rfl, q _ ⟨y, e4, rfl, hk y hm⟩⟩
  · cases e
theorem se_ix {a b : Expr} {da db : ED} {pos : Pos} (ha : SE X E C a da) (hb : SE X E C b db) (hs : PlainIx b) : SE X E C (.Subscript a b pos) (ixD da db) := by
  obtain ⟨ta, pa, sa⟩ := ha
  obtain ⟨tb, pb, sb⟩ := hb
  refine ⟨_, pe_ix ix_seq pa pb hs, ?_⟩
  intro G0 H0 G H σ ρ Q I h
  refine sa.useF famO I h fun r1 x G1 H1 e1 g1 I1 k1 h1 => ?_
  refine sb.use famO I1 h1 fun r2 y G2 H2 e2 g2 I2 k2 h2 => ?_
  have p2 := k2.rp I2.s
  split at h2
  · rename_i i q2
    rw [q2] at p2
    cases p2
    split at h2
    · rename_i z q
      refine ixF_ok I2.s (k1.grow g2) q fun y ry => h2 y G2 H2 (Grow.refl I2.s) ?_
      cases z with
      | im d => exact ry
      | ro n t => exact ry
      | fr n t =>
        exfalso
        revert q
        generalize r1.fz = r'
        intro q
        unfold ixF at q
        split at q <;> (try split at q) <;> first
          | cases q
          | (obtain ⟨_, _, q⟩ := Option.map_eq_some_iff.mp q; cases q)
    · exact h2.elim
  · exact h2.elim
def cutL {α : Type} (xs : List α) (lo hi : Option Int) : List α := (xs.drop (HT.sIx xs.length 0 lo)).take (HT.sIx xs.length xs.length hi - HT.sIx xs.length 0 lo)
theorem RpA.cut {K : PySem.W.Frag} {G : Hp} {vs : List V} {ds : List PD} (h : RpA K G vs ds) (lo hi : Option Int) : RpA K G (cutV vs lo hi) (cutL ds lo hi) := by
  unfold cutV cutL
  rw [h.length]
  exact (h.drop _).take _
/-- an optional bound -/
abbrev OD := Env → Out (Option Int)
def noO : OD := fun _ => .ok none
def soO (a : ED) : OD := fun ρ => (a ρ).bind fun r => match r.dat with
  | .int i => .ok (some i)
  | _ => .st
structure SOp (X : Cx) (E : XK) (C : CM) (e : Option Expr) (d : OD) : Prop where
  p : ∃ to, PO X e to ∧ ∀ G0 H0 G H σ ρ (Q : Option Int → Hp → Prop), EnvOk X.K G0 H0 G H σ ρ → (match d ρ with
    | .ok o => ∀ G' H', Grow G H G' H' → Q o H'
    | .ex c => ∀ G' H', Grow G H G' H' → E (C c) none H'
    | .st => False) → to σ H Q
theorem so_none : SOp X E C none noO := ⟨_, po_none, fun G0 H0 G H σ ρ Q I h => h G H (Grow.refl I.s)⟩
def OptOk (E : XK) (C : CM) (Q : Option Int → Hp → Prop) (G H : Hp) : Out (Option Int) → Prop
  | .ok o => ∀ G' H', Grow G H G' H' → Q o H'
  | .ex c => ∀ G' H', Grow G H G' H' → E (C c) none H'
  | .st => False
theorem famOp {Q : Option Int → Hp → Prop} : Fam E C (OptOk E C Q) := ⟨fun {G H G' H' o} h g => by
  cases o with
  | ok r => exact fun G2 H2 g2 => h G2 H2 (g.trans g2)
  | ex c => exact fun G2 H2 g2 => h G2 H2 (g.trans g2)
  | st => exact h, fun h => h, fun h => h⟩
theorem so_some {e : Expr} {a : ED} (ha : SE X E C e a) : SOp X E C (some e) (soO a) := by
  obtain ⟨ta, pa, sa⟩ := ha
  refine ⟨_, po_some pa, fun G0 H0 G H σ ρ Q I h => ?_⟩
  refine sa.use (P := OptOk E C Q) famOp I (f := fun r => match r.dat with
    | .int i => .ok (some i)
    | _ => .st) h fun r1 x G1 H1 e1 g1 I1 k1 h1 => ?_
  have k := k1.rp I1.s
  split at h1
  · rename_i i q
    rw [q] at k
    cases k
    exact ⟨i, rfl, h1 G1 H1 (Grow.refl I1.s)⟩
  · exact h1.elim
/-- xs[lo:hi] of a list -/
def kidsS : R → Option (List PD)
  | .im (.dict [(.none, .list ds)]) => some ds
  | r => kids r
def slD (a : ED) (l u : OD) : ED := fun ρ => (a ρ).bind fun r => (l ρ).bind fun lo => (u ρ).bind fun hi => match kidsS r.fz with
  | some ds => .ok (.fr 0 (cutL ds lo hi))
  | none => .st
theorem ROk.kidsS {K : PySem.W.Frag} {H0 G H : Hp} {r : R} {v : V} {ds : List PD} (s : Same G H) (h : ROk K H0 G H r v) (e : kidsS r = some ds) : ∃ a vs, v = .ref a ∧ SqL K H a vs ∧ RpA K G vs ds := by
  unfold Z.kidsS at e
  split at e
  · cases e
    cases h with
    | scr ns h1 => exact ⟨_, _, rfl, s.seq h1, rpA_ints ns⟩
  · obtain ⟨a, vs, e1, e2, e3⟩ := ROk.kids s h e
    exact ⟨a, vs, e1, SqL.of e2, e3⟩
theorem se_sl {e : Expr} {lo hi : Option Expr} {a : ED} {l u : OD} {p2 pos : Pos} (ha : SE X E C e a) (hl : SOp X E C lo l) (hu : SOp X E C hi u) : SE X E C (.Subscript e (.Slice lo hi none p2) pos) (slD a l u) := by
  obtain ⟨ta, pa, sa⟩ := ha
  obtain ⟨tl, pl, sl⟩ := hl
  obtain ⟨tu, pu, su⟩ := hu
  refine ⟨_, pe_slice sl_list pa pl pu, ?_⟩
  intro G0 H0 G H σ ρ Q I h
  refine sa.useF famO I h fun r1 x G1 H1 e1 g1 I1 k1 h1 => ?_
  refine sl G0 H0 G1 H1 σ ρ _ I1 ?_
  cases el : l ρ with
  | st => rw [el] at h1; exact h1
  | ex c => rw [el] at h1; exact h1
  | ok o1 =>
    rw [el] at h1
    intro G2 H2 g2
    have h2 := OOk.up (show OOk X.K E C G1 H1 Q ((u ρ).bind fun hi => match kidsS r1.fz with
      | some ds => .ok (.fr 0 (cutL ds o1 hi))
      | none => .st) from h1) g2
    have I2 := I1.grow g2
    refine su G0 H0 G2 H2 σ ρ _ I2 ?_
    cases eu : u ρ with
    | st => rw [eu] at h2; exact h2
    | ex c => rw [eu] at h2; exact h2
    | ok o2 =>
      rw [eu] at h2
      intro G3 H3 g3
      have I3 := I2.grow g3
      have h3 := OOk.up (show OOk X.K E C G2 H2 Q (match kidsS r1.fz with
        | some ds => .ok (.fr 0 (cutL ds o1 o2))
        | none => .st) from h2) g3
      have k := k1.grow (g2.trans g3)
      split at h3
      · rename_i ds q
        obtain ⟨p, vs, rfl, hp, rv⟩ := k.kidsS I3.s q
        exact ⟨p, vs, rfl, hp, fun q hq => h3 _ G3 _ (Grow.new I3.s hq) (fresh_list (rv.cut o1 o2) hq I3.s)⟩
      · exact h3.elim
end
end Z

/-! ## Z5 -/
set_option Elab.async false
set_option linter.all false
set_option maxRecDepth 100000
set_option maxHeartbeats 2000000
namespace Z
open PySem PySem.Spec PyProof.Rows L2
section
variable {X : Cx} {E : XK} {C : CM}

/-! ### built-ins with a flat answer -/
@[simp] def cbD (f : List PD → Option PD) (a : AD) : ED := fun ρ => (a ρ).bind fun rs => match f (rs.map R.dat) with
  | some d => .ok (.im d)
  | none => .st
def LkC (K : PySem.W.Frag) (r : List V → Hp → VK → Prop) (f : List PD → Option PD) : Prop := ∀ (H : Hp) (xs : List V) (ds : List PD) (z : PD) (Q : VK), RpA K H xs ds → f ds = some z → ∃ v, scV z = some v ∧ (Q v H → r xs H Q)
theorem sim_cb {K : PySem.W.Frag} {r : List V → Hp → VK → Prop} {f : List PD → Option PD} {ta : TA} {a : AD} (l : LkC K r f) (ha : SimA K E C ta a) : SimE K E C (fun σ H Q => ta σ H fun xs H1 => r xs H1 Q) (cbD f a) := by
  intro G0 H0 G H σ ρ Q I h
  refine ha.use famO I h fun rs vs G1 H1 e1 g1 I1 k1 h1 => ?_
  cases e : f (rs.map R.dat) with
  | none => rw [e] at h1; exact h1.elim
  | some z =>
    rw [e] at h1
    obtain ⟨v, ev, hr⟩ := l H1 vs _ z Q (k1.rp I1.s) e
    exact hr (h1 v G1 H1 (Grow.refl I1.s) (rp_sc ev))
theorem se_cb {id : String} {x : Str} {r : List V → Hp → VK → Prop} {f : List PD → Option PD} {e : Expr} {es : List Expr} {a : AD} {p pos : Pos} (hc : CallR X (.builtin id) r) (l : LkC X.K r f) (hg : Gl X x) (hm : X.mg x = none) (hv : bootBuiltins x = some (.builtin id)) (ha : SA X E C (e :: es) a) (hn : x ≠ "__name__" := by decide) (hdb : (x == ("__debug__" : Str)) = false := by decide)
    (he : starEach (e :: es) X.env = (false, eval e X.env) :: starEach es X.env := by rfl) (hpl : (backTo pos (starEach es X.env)).any (·.1) = false := by rfl) :
    SE X E C (.Call (.Name x p) (e :: es) [] pos) (cbD f a) := by
  obtain ⟨ta, pa, sa⟩ := ha
  exact ⟨_, pe_callB hc hg hm hv pa hn hdb he hpl, sim_cb l sa⟩
theorem se_cty {id : String} {x : Str} {r : List V → Hp → VK → Prop} {f : List PD → Option PD} {e : Expr} {es : List Expr} {a : AD} {p pos : Pos} (hc : CallR X (.type id) r) (l : LkC X.K r f) (hg : Gl X x) (hm : X.mg x = none) (hv : bootBuiltins x = some (.type id)) (ha : SA X E C (e :: es) a) (hn : x ≠ "__name__" := by decide) (hdb : (x == ("__debug__" : Str)) = false := by decide)
    (he : starEach (e :: es) X.env = (false, eval e X.env) :: starEach es X.env := by rfl) (hpl : (backTo pos (starEach es X.env)).any (·.1) = false := by rfl) :
    SE X E C (.Call (.Name x p) (e :: es) [] pos) (cbD f a) := by
  obtain ⟨ta, pa, sa⟩ := ha
  exact ⟨_, pe_callTy hc hg hm hv pa hn hdb he hpl, sim_cb l sa⟩
theorem rpA_one {K : PySem.W.Frag} {H : Hp} {xs : List V} {d : PD} (h : RpA K H xs [d]) : ∃ x, xs = [x] ∧ Rp K H x d := by
  cases h with
  | cons h1 h2 => cases h2; exact ⟨_, rfl, h1⟩
theorem rpA_two {K : PySem.W.Frag} {H : Hp} {xs : List V} {d e : PD} (h : RpA K H xs [d, e]) : ∃ x y, xs = [x, y] ∧ Rp K H x d ∧ Rp K H y e := by
  cases h with
  | cons h1 h2 => obtain ⟨y, rfl, h3⟩ := rpA_one h2; exact ⟨_, y, rfl, h1, h3⟩
def lenF : List PD → Option PD
  | [.list ds] => some (.int (ds.length : Nat))
  | [.tuple ds] => some (.int (ds.length : Nat))
  | [.dict [(.none, .list ds)]] => some (.int (ds.length : Nat))
  | [.str z] => if z.length ≤ 100000 then some (.int (z.length : Nat)) else none
  | _ => none
theorem lk_len {K : PySem.W.Frag} : LkC K (fun xs H Q => ∃ x n, xs = [x] ∧ LenV K x H n ∧ Q (.int (n : Nat)) H) lenF := by
  intro H xs ds z Q h e
  unfold lenF at e
  split at e
  · cases e
    obtain ⟨x, rfl, r⟩ := rpA_one h
    cases r with
    | lst h1 h2 => exact ⟨_, rfl, fun q => ⟨_, _, rfl, .inl ⟨_, SqL.of h1, rfl⟩, by rw [h2.length]; exact q⟩⟩
  · cases e
    obtain ⟨x, rfl, r⟩ := rpA_one h
    cases r with
    | tup h1 h2 => exact ⟨_, rfl, fun q => ⟨_, _, rfl, .inr ⟨_, SqT.of h1, rfl⟩, by rw [h2.length]; exact q⟩⟩
  · cases e
    obtain ⟨x, rfl, r⟩ := rpA_one h
    cases r with
    | scr ns h1 => exact ⟨_, rfl, fun q => ⟨_, _, rfl, .inl ⟨_, h1, rfl⟩, by rw [List.length_map] at q ⊢; exact q⟩⟩
  · split at e
    · rename_i c
      cases e
      obtain ⟨x, rfl, r⟩ := rpA_one h
      cases r
      exact ⟨_, rfl, fun q => ⟨_, _, rfl, ⟨le_line c, rfl⟩, q⟩⟩
    · cases e
  · cases e
def intsOf : List PD → Option (List Int)
  | [] => some []
  | .int i :: r => (intsOf r).map (i :: ·)
  | _ => none
theorem intsOf_eq : ∀ {ds : List PD} {ns : List Int}, intsOf ds = some ns → ds = ns.map PyData.int
  | [], _, h => by cases h; rfl
  | .int i :: r, ns, h => by
    simp only [intsOf, Option.map_eq_some_iff] at h
    obtain ⟨ms, h1, rfl⟩ := h
    rw [intsOf_eq h1] <;> rfl
  | .none :: _, _, h => by simp [intsOf] at h
  | .bool _ :: _, _, h => by simp [intsOf] at h
  | .str _ :: _, _, h => by simp [intsOf] at h
  | .list _ :: _, _, h => by simp [intsOf] at h
  | .tuple _ :: _, _, h => by simp [intsOf] at h
  | .dict _ :: _, _, h => by simp [intsOf] at h
theorem intsOf_map (ns : List Int) : intsOf (ns.map PyData.int) = some ns := by
  induction ns with
  | nil => rfl
  | cons n ns ih => show (intsOf (ns.map PyData.int)).map (n :: ·) = _; rw [ih]; rfl
def boolsOf : List PD → Option (List Bool)
  | [] => some []
  | .bool i :: r => (boolsOf r).map (i :: ·)
  | _ => none
theorem boolsOf_eq : ∀ {ds : List PD} {ns : List Bool}, boolsOf ds = some ns → ds = ns.map PyData.bool
  | [], _, h => by cases h; rfl
  | .bool i :: r, ns, h => by
    simp only [boolsOf, Option.map_eq_some_iff] at h
    obtain ⟨ms, h1, rfl⟩ := h
    rw [boolsOf_eq h1] <;> rfl
  | .none :: _, _, h => by simp [boolsOf] at h
  | .int _ :: _, _, h => by simp [boolsOf] at h
  | .str _ :: _, _, h => by simp [boolsOf] at h
  | .list _ :: _, _, h => by simp [boolsOf] at h
  | .tuple _ :: _, _, h => by simp [boolsOf] at h
  | .dict _ :: _, _, h => by simp [boolsOf] at h
theorem boolsOf_map (ns : List Bool) : boolsOf (ns.map PyData.bool) = some ns := by
  induction ns with
  | nil => rfl
  | cons n ns ih => show (boolsOf (ns.map PyData.bool)).map (n :: ·) = _; rw [ih]; rfl
/-- the ints of a list -/
def ofInts (f : List Int → Option PD) : List PD → Option PD
  | [.list ds] => (intsOf ds).bind f
  | _ => none
theorem ofInts_lk {K : PySem.W.Frag} {r : List V → Hp → VK → Prop} {f : List Int → Option PD} (h : ∀ (H : Hp) (a : Addr) (ns : List Int) (z : PD) (Q : VK), SqL K H a (ns.map V.int) → f ns = some z → ∃ v, scV z = some v ∧ (Q v H → r [.ref a] H Q)) : LkC K r (ofInts f) := by
  intro H xs ds z Q hr e
  unfold ofInts at e
  split at e
  · obtain ⟨ns, e1, e2⟩ := Option.bind_eq_some_iff.mp e
    obtain ⟨x, rfl, r⟩ := rpA_one hr
    rw [intsOf_eq e1] at r
    cases r with
    | lst h1 h2 =>
      rw [h2.ints] at h1
      exact h H _ ns z Q (SqL.of h1) e2
  · cases e
def ofBools (f : List Bool → Option PD) : List PD → Option PD
  | [.list ds] => (boolsOf ds).bind f
  | _ => none
theorem ofBools_lk {K : PySem.W.Frag} {r : List V → Hp → VK → Prop} {f : List Bool → Option PD} (h : ∀ (H : Hp) (a : Addr) (ns : List Bool) (z : PD) (Q : VK), SqL K H a (ns.map V.bl) → f ns = some z → ∃ v, scV z = some v ∧ (Q v H → r [.ref a] H Q)) : LkC K r (ofBools f) := by
  intro H xs ds z Q hr e
  unfold ofBools at e
  split at e
  · obtain ⟨ns, e1, e2⟩ := Option.bind_eq_some_iff.mp e
    obtain ⟨x, rfl, r⟩ := rpA_one hr
    rw [boolsOf_eq e1] at r
    cases r with
    | lst h1 h2 =>
      rw [h2.bools] at h1
      exact h H _ ns z Q (SqL.of h1) e2
  · cases e
@[simp] def sumF : List PD → Option PD := ofInts fun ns => some (.int ns.sum)
theorem lk_sum {K : PySem.W.Frag} : LkC K (rSum K) sumF := ofInts_lk fun H a ns z Q h e => by
  cases e
  exact ⟨_, rfl, fun q => ⟨a, ns, rfl, h, q⟩⟩
/-- the greatest, the least of a list that isn't empty -/
def maxL : List Int → Int
  | [] => 0
  | x :: r => r.foldl max x
def minL : List Int → Int
  | [] => 0
  | x :: r => r.foldl min x
theorem foldl_max_ge : ∀ (r : List Int) (x : Int), x ≤ r.foldl max x ∧ ∀ y ∈ r, y ≤ r.foldl max x
  | [], x => ⟨Int.le_refl _, fun _ h => nomatch h⟩
  | z :: r, x => by
    have ih := foldl_max_ge r (max x z)
    refine ⟨Int.le_trans (Int.le_max_left x z) ih.1, fun y hy => ?_⟩
    rcases List.mem_cons.mp hy with rfl | hy
    · exact Int.le_trans (Int.le_max_right x y) ih.1
    · exact ih.2 y hy
theorem foldl_max_mem : ∀ (r : List Int) (x : Int), r.foldl max x = x ∨ r.foldl max x ∈ r
  | [], x => .inl rfl
  | z :: r, x => by
    rcases foldl_max_mem r (max x z) with h | h
    · have : max x z = x ∨ max x z = z := by omega
      rcases this with e | e
      · exact .inl (h.trans e)
      · exact .inr (by show r.foldl max (max x z) ∈ z :: r; rw [h, e]; exact List.mem_cons_self)
    · exact .inr (List.mem_cons_of_mem _ h)
theorem foldl_min_le : ∀ (r : List Int) (x : Int), r.foldl min x ≤ x ∧ ∀ y ∈ r, r.foldl min x ≤ y
  | [], x => ⟨Int.le_refl _, fun _ h => nomatch h⟩
  | z :: r, x => by
    have ih := foldl_min_le r (min x z)
    refine ⟨Int.le_trans ih.1 (Int.min_le_left x z), fun y hy => ?_⟩
    rcases List.mem_cons.mp hy with rfl | hy
    · exact Int.le_trans ih.1 (Int.min_le_right x y)
    · exact ih.2 y hy
theorem foldl_min_mem : ∀ (r : List Int) (x : Int), r.foldl min x = x ∨ r.foldl min x ∈ r
  | [], x => .inl rfl
  | z :: r, x => by
    rcases foldl_min_mem r (min x z) with h | h
    · have : min x z = x ∨ min x z = z := by omega
      rcases this with e | e
      · exact .inl (h.trans e)
      · exact .inr (by show r.foldl min (min x z) ∈ z :: r; rw [h, e]; exact List.mem_cons_self)
    · exact .inr (List.mem_cons_of_mem _ h)
theorem maxL_mem {ns : List Int} (h : ns ≠ []) : maxL ns ∈ ns := by
  cases ns with
  | nil => exact absurd rfl h
  | cons x r =>
    rcases foldl_max_mem r x with e | e
    · show r.foldl max x ∈ x :: r; rw [e]; exact List.mem_cons_self
    · exact List.mem_cons_of_mem _ e
theorem maxL_ge {ns : List Int} {y : Int} (h : y ∈ ns) : y ≤ maxL ns := by
  cases ns with
  | nil => cases h
  | cons x r =>
    rcases List.mem_cons.mp h with rfl | h
    · exact (foldl_max_ge r y).1
    · exact (foldl_max_ge r x).2 y h
theorem minL_mem {ns : List Int} (h : ns ≠ []) : minL ns ∈ ns := by
  cases ns with
  | nil => exact absurd rfl h
  | cons x r =>
    rcases foldl_min_mem r x with e | e
    · show r.foldl min x ∈ x :: r; rw [e]; exact List.mem_cons_self
    · exact List.mem_cons_of_mem _ e
theorem minL_le {ns : List Int} {y : Int} (h : y ∈ ns) : minL ns ≤ y := by
  cases ns with
  | nil => cases h
  | cons x r =>
    rcases List.mem_cons.mp h with rfl | h
    · exact (foldl_min_le r y).1
    · exact (foldl_min_le r x).2 y h
@[simp] def maxF : List PD → Option PD := ofInts fun ns => if ns = [] then none else some (.int (maxL ns))
@[simp] def minF : List PD → Option PD := ofInts fun ns => if ns = [] then none else some (.int (minL ns))
theorem lk_max {K : PySem.W.Frag} : LkC K (rMax K) maxF := ofInts_lk fun H a ns z Q h e => by
  split at e
  · cases e
  · rename_i c
    cases e
    refine ⟨_, rfl, fun q => ⟨a, ns, rfl, h, List.length_pos_iff.mpr c, fun m hm hl => ?_⟩⟩
    have e1 : m = maxL ns := Int.le_antisymm (maxL_ge hm) (hl _ (maxL_mem c))
    rw [e1]
    exact q
theorem lk_min {K : PySem.W.Frag} : LkC K (rMin K) minF := ofInts_lk fun H a ns z Q h e => by
  split at e
  · cases e
  · rename_i c
    cases e
    refine ⟨_, rfl, fun q => ⟨a, ns, rfl, h, List.length_pos_iff.mpr c, fun m hm hl => ?_⟩⟩
    have e1 : m = minL ns := Int.le_antisymm (hl _ (minL_mem c)) (minL_le hm)
    rw [e1]
    exact q
@[simp] def allF : List PD → Option PD := ofBools fun bs => some (.bool (bs.all id))
@[simp] def anyF : List PD → Option PD := ofBools fun bs => some (.bool (bs.any id))
theorem lk_all {K : PySem.W.Frag} : LkC K (rAll K) allF := ofBools_lk fun H a ns z Q h e => by
  cases e
  exact ⟨_, rfl, fun q => ⟨a, ns, rfl, h, q⟩⟩
theorem lk_any {K : PySem.W.Frag} : LkC K (rAny K) anyF := ofBools_lk fun H a ns z Q h e => by
  cases e
  exact ⟨_, rfl, fun q => ⟨a, ns, rfl, h, q⟩⟩
def max2F : List PD → Option PD
  | [.int i, .int j] => some (.int (if j > i then j else i))
  | _ => none
def min2F : List PD → Option PD
  | [.int i, .int j] => some (.int (if j < i then j else i))
  | _ => none
theorem lk_max2 {K : PySem.W.Frag} : LkC K (fun xs H Q => ∃ i j, xs = [.int i, .int j] ∧ Q (.int (if j > i then j else i)) H) max2F := by
  intro H xs ds z Q h e
  unfold max2F at e
  split at e
  · cases e
    obtain ⟨x, y, rfl, r1, r2⟩ := rpA_two h
    cases r1; cases r2
    exact ⟨_, rfl, fun q => ⟨_, _, rfl, q⟩⟩
  · cases e
theorem lk_min2 {K : PySem.W.Frag} : LkC K (fun xs H Q => ∃ i j, xs = [.int i, .int j] ∧ Q (.int (if j < i then j else i)) H) min2F := by
  intro H xs ds z Q h e
  unfold min2F at e
  split at e
  · cases e
    obtain ⟨x, y, rfl, r1, r2⟩ := rpA_two h
    cases r1; cases r2
    exact ⟨_, rfl, fun q => ⟨_, _, rfl, q⟩⟩
  · cases e
def intF : List PD → Option PD
  | [.int i] => some (.int i)
  | [.bool b] => some (.int (if b then 1 else 0))
  | _ => none
theorem lk_int1 {K : PySem.W.Frag} : LkC K (fun xs H Q => (∃ i, xs = [.int i] ∧ Q (.int i) H) ∨ ∃ k, xs = [.bl k] ∧ Q (.int (if k then 1 else 0)) H) intF := by
  intro H xs ds z Q h e
  unfold intF at e
  split at e
  · cases e
    obtain ⟨x, rfl, r1⟩ := rpA_one h
    cases r1
    exact ⟨_, rfl, fun q => .inl ⟨_, rfl, q⟩⟩
  · cases e
    obtain ⟨x, rfl, r1⟩ := rpA_one h
    cases r1
    exact ⟨_, rfl, fun q => .inr ⟨_, rfl, q⟩⟩
  · cases e

/-! ### built-ins that make a list -/
/-- the items of a list or a tuple -/
def kidsT : R → Option (List PD)
  | .im (.tuple ds) => some ds
  | r => kidsS r
theorem ROk.kidsT {K : PySem.W.Frag} {H0 G H : Hp} {r : R} {v : V} {ds : List PD} (s : Same G H) (h : ROk K H0 G H r v) (e : kidsT r = some ds) : ∃ a vs, v = .ref a ∧ (SqL K H a vs ∨ SqT K H a vs) ∧ RpA K G vs ds := by
  unfold Z.kidsT at e
  split at e
  · cases e
    cases h with
    | tup h1 h2 => exact ⟨_, _, rfl, .inr (SqT.of (s _ _ h1)), h2⟩
  · obtain ⟨a, vs, e1, e2, e3⟩ := ROk.kidsS s h e
    exact ⟨a, vs, e1, .inl e2, e3⟩
@[simp] def listD (a : AD) : ED := fun ρ => (a ρ).bind fun rs => match rs with
  | [r] => match kidsT r with
    | some ds => .ok (.fr 0 ds)
    | none => .st
  | _ => .st
theorem ROkA.one {K : PySem.W.Frag} {H0 G H : Hp} {r : R} {vs : List V} (h : ROkA K H0 G H [r] vs) : ∃ v, vs = [v] ∧ ROk K H0 G H r v := by
  cases h with
  | cons a b => cases b; exact ⟨_, rfl, a⟩
theorem se_list {e : Expr} {es : List Expr} {a : AD} {p pos : Pos} (hg : Gl X "list") (hm : X.mg "list" = none) (ha : SA X E C (e :: es) a)
    (he : starEach (e :: es) X.env = (false, eval e X.env) :: starEach es X.env := by rfl) (hpl : (backTo pos (starEach es X.env)).any (·.1) = false := by rfl) :
    SE X E C (.Call (.Name "list" p) (e :: es) [] pos) (listD a) := by
  obtain ⟨ta, pa, sa⟩ := ha
  refine ⟨_, pe_callTy call_list_of hg hm boot_list pa (he := he) (hpl := hpl), ?_⟩
  intro G0 H0 G H σ ρ Q I h
  refine sa.use famO I h fun rs vs G1 H1 e1 g1 I1 k1 h1 => ?_
  split at h1
  · rename_i r
    split at h1
    · rename_i ds q
      obtain ⟨v, rfl, k2⟩ := k1.one
      obtain ⟨a, us, rfl, hs, ru⟩ := k2.kidsT I1.s q
      exact ⟨a, us, rfl, hs, fun l hl => h1 _ G1 _ (Grow.new I1.s hl) (fresh_list ru hl I1.s)⟩
    · exact h1.elim
  · exact h1.elim
/-- ints, rising -/
def sortI (ns : List Int) : List Int := ns.mergeSort fun a b => decide (a ≤ b)
theorem sortI_perm (ns : List Int) : (sortI ns).Perm ns := List.mergeSort_perm ns _
theorem sortI_sorted (ns : List Int) : (sortI ns).Pairwise (· ≤ ·) := by
  have h := List.pairwise_mergeSort (le := fun a b : Int => decide (a ≤ b)) (fun a b c h1 h2 => by simp at *; omega) (fun a b => by simp; omega) ns
  exact h.imp fun h => by simpa using h
theorem sortI_unique {ns ms : List Int} (p : ms.Perm ns) (s : ms.Pairwise (· ≤ ·)) : ms = sortI ns :=
  (p.trans (sortI_perm ns).symm).eq_of_pairwise (fun x y _ _ h1 h2 => Int.le_antisymm h1 h2) s (sortI_sorted ns)
@[simp] def sortD (a : AD) : ED := fun ρ => (a ρ).bind fun rs => match rs.map R.dat with
  | [.list ds] => match intsOf ds with
    | some ns => .ok (.fr 0 (@List.map Int PD PyData.int (sortI ns)))
    | none => .st
  | _ => .st
theorem se_sorted {e : Expr} {es : List Expr} {a : AD} {p pos : Pos} (hg : Gl X "sorted") (hm : X.mg "sorted" = none) (ha : SA X E C (e :: es) a)
    (he : starEach (e :: es) X.env = (false, eval e X.env) :: starEach es X.env := by rfl) (hpl : (backTo pos (starEach es X.env)).any (·.1) = false := by rfl) :
    SE X E C (.Call (.Name "sorted" p) (e :: es) [] pos) (sortD a) := by
  obtain ⟨ta, pa, sa⟩ := ha
  refine ⟨_, pe_callB cr_sortedI hg hm (by decide +kernel) pa (he := he) (hpl := hpl), ?_⟩
  intro G0 H0 G H σ ρ Q I h
  refine sa.use famO I h fun rs vs G1 H1 e1 g1 I1 k1 h1 => ?_
  have k := k1.rp I1.s
  split at h1
  · rename_i ds q
    rw [q] at k
    split at h1
    · rename_i ns q2
      obtain ⟨v, rfl, k2⟩ := rpA_one k
      rw [intsOf_eq q2] at k2
      cases k2 with
      | lst h3 h4 =>
        rw [h4.ints] at h3
        refine ⟨_, ns, rfl, SqL.of h3, fun ns' p hp hs hl => ?_⟩
        rw [sortI_unique hp hs]
        exact h1 _ G1 _ (Grow.new I1.s hl) (fresh_list (rpA_ints _) hl I1.s)
    · exact h1.elim
  · exact h1.elim
/-- list(range(n)) -/
def rangeL (a b : Int) : List Int := (List.range (b - a).toNat).map fun i => a + (i : Nat)
@[simp] noncomputable def lrgD (a : ED) : ED := fun ρ => (a ρ).bind fun r => match r.dat with
  | .int n => @ite _ (-100000 ≤ n ∧ n ≤ 100000) (Classical.propDecidable _) (.ok (.fr 0 (@List.map Int PD PyData.int (rangeL 0 n)))) .st
  | _ => .st
theorem rgV_eq (a b : Int) : rgV a b = (rangeL a b).map V.int := by
  unfold rgV rangeL
  rw [List.map_map]
  rfl
theorem se_lrg {e : Expr} {a : ED} {p q pos pos2 : Pos} (hc : X.calm = true) (hg : Gl X "list") (hm : X.mg "list" = none) (hg2 : Gl X "range") (hm2 : X.mg "range" = none) (ha : SE X E C e a)
    (na : starEach [e] X.env = (false, eval e X.env) :: starEach [] X.env := by rfl) (nb : starEach [.Call (.Name "range" q) [e] [] pos2] X.env = (false, eval (.Call (.Name "range" q) [e] [] pos2) X.env) :: starEach [] X.env := by rfl) :
    SE X E C (.Call (.Name "list" p) [.Call (.Name "range" q) [e] [] pos2] [] pos) (lrgD a) := by
  obtain ⟨ta, pa, sa⟩ := ha
  refine ⟨_, pe_listRg hc hg hm (prg_1 hg2 hm2 pa na) nb, ?_⟩
  intro G0 H0 G H σ ρ Q I h
  refine sa.use famO I h fun r v G1 H1 e1 g1 I1 k1 h1 => ?_
  have k := k1.rp I1.s
  split at h1
  · rename_i n q
    rw [q] at k
    cases k
    split at h1
    · rename_i c
      refine ⟨n, rfl, ⟨by omega, by omega, by omega, by omega, by omega⟩, fun l hl => ?_⟩
      rw [rgV_eq]
      exact h1 _ G1 _ (Grow.new I1.s hl) (fresh_list (rpA_ints _) hl I1.s)
    · exact h1.elim
  · exact h1.elim

/-! ### what a value is -/
def tyP : PD → String
  | .none => "NoneType"
  | .bool _ => "bool"
  | .int _ => "int"
  | .str _ => "str"
  | .list _ => "list"
  | .tuple _ => "tuple"
  | .dict [] => "dict"
  | .dict _ => "list"
theorem Rp.ty {K : PySem.W.Frag} {H : Hp} {x : V} {d : PD} (h : Rp K H x d) : TyB K H x (tyP d) := by
  cases h with
  | non => exact .non
  | bl b => exact .bl b
  | int i => exact .int i
  | str x => exact .str x
  | lst h1 h2 => exact .lst (SqL.of h1)
  | tup h1 h2 => exact .tup (SqT.of h1)
  | emp h1 => exact .dK h1
  | scr ns h1 => exact .lst h1
/-- type(e) is T, type(e) is not T -/
@[simp] def tyD (f : Bool → Bool) (T : String) (a : ED) : ED := fun ρ => (a ρ).bind fun r => .ok (.im (.bool (f (decide (tyP r.dat = T)))))
theorem se_ty {e : Expr} {x : Str} {T : String} {a : ED} {p q pos pos2 : Pos} (hg : Gl X "type") (hm : X.mg "type" = none) (hgT : Gl X x) (hmT : X.mg x = none) (hv : bootBuiltins x = some (.type T)) (ha : SE X E C e a) (hn : x ≠ "__name__" := by decide) (hd : (x == ("__debug__" : Str)) = false := by decide)
    (na : starEach [e] X.env = (false, eval e X.env) :: starEach [] X.env := by rfl) (hb : behindInMarks .Is (.Name x q) = false := by rfl) :
    SE X E C (.Compare (.Call (.Name "type" p) [e] [] pos2) [.Is] [.Name x q] pos) (tyD id T a) := by
  obtain ⟨ta, pa, sa⟩ := ha
  refine ⟨_, pe_cmpR op_isTy (pe_callTy call_type1 hg hm (by decide +kernel) (pa_cons pa pa_nil na) (he := na)) (pe_bltn (v := .ty T) hgT hmT hv rfl hn hd) hb, ?_⟩
  intro G0 H0 G H σ ρ Q I h
  refine sa.use famO I h fun r v G1 H1 e1 g1 I1 k1 h1 => ?_
  have k := k1.rp I1.s
  exact ⟨v, _, rfl, k.ty, _, T, rfl, rfl, h1 _ G1 H1 (Grow.refl I1.s) (.bl _)⟩
theorem se_nty {e : Expr} {x : Str} {T : String} {a : ED} {p q pos pos2 : Pos} (hg : Gl X "type") (hm : X.mg "type" = none) (hgT : Gl X x) (hmT : X.mg x = none) (hv : bootBuiltins x = some (.type T)) (ha : SE X E C e a) (hn : x ≠ "__name__" := by decide) (hd : (x == ("__debug__" : Str)) = false := by decide)
    (na : starEach [e] X.env = (false, eval e X.env) :: starEach [] X.env := by rfl) (hb : behindInMarks .IsNot (.Name x q) = false := by rfl) :
    SE X E C (.Compare (.Call (.Name "type" p) [e] [] pos2) [.IsNot] [.Name x q] pos) (tyD not T a) := by
  obtain ⟨ta, pa, sa⟩ := ha
  refine ⟨_, pe_cmpR op_isNotTy (pe_callTy call_type1 hg hm (by decide +kernel) (pa_cons pa pa_nil na) (he := na)) (pe_bltn (v := .ty T) hgT hmT hv rfl hn hd) hb, ?_⟩
  intro G0 H0 G H σ ρ Q I h
  refine sa.use famO I h fun r v G1 H1 e1 g1 I1 k1 h1 => ?_
  have k := k1.rp I1.s
  exact ⟨v, _, rfl, k.ty, _, T, rfl, rfl, h1 _ G1 H1 (Grow.refl I1.s) (.bl _)⟩
theorem st_ty {e : Expr} {x : Str} {T : String} {a : ED} {p q pos pos2 : Pos} (hg : Gl X "type") (hm : X.mg "type" = none) (hgT : Gl X x) (hmT : X.mg x = none) (hv : bootBuiltins x = some (.type T)) (ha : SE X E C e a) (hn : x ≠ "__name__" := by decide) (hd : (x == ("__debug__" : Str)) = false := by decide)
    (na : starEach [e] X.env = (false, eval e X.env) :: starEach [] X.env := by rfl) (hb : behindInMarks .Is (.Name x q) = false := by rfl) :
    ST X E C (.Compare (.Call (.Name "type" p) [e] [] pos2) [.Is] [.Name x q] pos) (tstD (tyD id T a)) := by
  obtain ⟨ta, pa, sa⟩ := ha
  refine ⟨_, pt_cmpR op_isTy (pe_callTy call_type1 hg hm (by decide +kernel) (pa_cons pa pa_nil na) (he := na)) (pe_bltn (v := .ty T) hgT hmT hv rfl hn hd) hb, sim_tst ?_⟩
  intro G0 H0 G H σ ρ Q I h
  refine sa.use famO I h fun r v G1 H1 e1 g1 I1 k1 h1 => ?_
  have k := k1.rp I1.s
  exact ⟨v, _, rfl, k.ty, _, T, rfl, rfl, h1 _ G1 H1 (Grow.refl I1.s) (.bl _)⟩
theorem st_nty {e : Expr} {x : Str} {T : String} {a : ED} {p q pos pos2 : Pos} (hg : Gl X "type") (hm : X.mg "type" = none) (hgT : Gl X x) (hmT : X.mg x = none) (hv : bootBuiltins x = some (.type T)) (ha : SE X E C e a) (hn : x ≠ "__name__" := by decide) (hd : (x == ("__debug__" : Str)) = false := by decide)
    (na : starEach [e] X.env = (false, eval e X.env) :: starEach [] X.env := by rfl) (hb : behindInMarks .IsNot (.Name x q) = false := by rfl) :
    ST X E C (.Compare (.Call (.Name "type" p) [e] [] pos2) [.IsNot] [.Name x q] pos) (tstD (tyD not T a)) := by
  obtain ⟨ta, pa, sa⟩ := ha
  refine ⟨_, pt_cmpR op_isNotTy (pe_callTy call_type1 hg hm (by decide +kernel) (pa_cons pa pa_nil na) (he := na)) (pe_bltn (v := .ty T) hgT hmT hv rfl hn hd) hb, sim_tst ?_⟩
  intro G0 H0 G H σ ρ Q I h
  refine sa.use famO I h fun r v G1 H1 e1 g1 I1 k1 h1 => ?_
  have k := k1.rp I1.s
  exact ⟨v, _, rfl, k.ty, _, T, rfl, rfl, h1 _ G1 H1 (Grow.refl I1.s) (.bl _)⟩
/-- isinstance(e, T), T a built-in class; not of the law's own argument -/
def isiF (T : String) (d : PD) : Option PD := match d with
  | .dict (_ :: _) => none
  | d => (kitB (tyP d) T).map PyData.bool
@[simp] def isiD (T : String) (a : ED) : ED := fun ρ => (a ρ).bind fun r => match isiF T r.dat with
  | some d => .ok (.im d)
  | none => .st
theorem Rp.tyx {K : PySem.W.Frag} {H : Hp} {x : V} {d : PD} (h : Rp K H x d) (n : ∀ p r, d ≠ .dict (p :: r)) : TyX K H x (.type (tyP d)) := by
  cases h with
  | non => exact .base .non
  | bl b => exact .base (.bl b)
  | int i => exact .base (.int i)
  | str x => exact .base (.str x)
  | lst h1 h2 => exact .base (.lst h1)
  | tup h1 h2 => exact .base (.tup h1)
  | emp h1 => exact .base (.dK h1)
  | scr ns h1 => exact absurd rfl (n _ _)
theorem se_isi {e : Expr} {x : Str} {T : String} {a : ED} {p q pos : Pos} (hg : Gl X "isinstance") (hm : X.mg "isinstance" = none) (hgT : Gl X x) (hmT : X.mg x = none) (hv : bootBuiltins x = some (.type T)) (ha : SE X E C e a) (hn : x ≠ "__name__" := by decide) (hd : (x == ("__debug__" : Str)) = false := by decide)
    (na : starEach [e, .Name x q] X.env = (false, eval e X.env) :: starEach [.Name x q] X.env := by rfl) (nb : starEach [.Name x q] X.env = (false, eval (.Name x q) X.env) :: starEach [] X.env := by rfl) (hpl : (backTo pos (starEach [.Name x q] X.env)).any (·.1) = false := by rfl) :
    SE X E C (.Call (.Name "isinstance" p) [e, .Name x q] [] pos) (isiD T a) := by
  obtain ⟨ta, pa, sa⟩ := ha
  refine ⟨_, pe_callB call_isi hg hm (by decide +kernel) (pa_cons pa (pa_cons (pe_bltn (v := .ty T) hgT hmT hv rfl hn hd) pa_nil nb) na) (he := na) (hpl := hpl), ?_⟩
  intro G0 H0 G H σ ρ Q I h
  refine sa.use famO I h fun r v G1 H1 e1 g1 I1 k1 h1 => ?_
  have k := k1.rp I1.s
  cases e : isiF T r.dat with
  | none => rw [e] at h1; exact h1.elim
  | some z =>
    rw [e] at h1
    unfold isiF at e
    split at e
    · cases e
    · rename_i d nd
      obtain ⟨b, e2, e3⟩ := Option.map_eq_some_iff.mp e
      subst e3
      exact ⟨v, .ty T, _, _, b, rfl, .ty T, k.tyx (fun p r q => nd p r q), kit_ty e2, h1 _ G1 H1 (Grow.refl I1.s) (.bl _)⟩
end
end Z

/-! ## Z6 -/
set_option Elab.async false
set_option linter.all false
set_option maxRecDepth 100000
set_option maxHeartbeats 2000000
namespace Z
open PySem PySem.Spec PyProof.Rows L2

/-! ### calls of the text's own defs -/
mutual
/-- no list and no dict in it -/
def lf : PD → Bool
  | .list _ => false
  | .dict _ => false
  | .tuple ds => lfs ds
  | _ => true
def lfs : List PD → Bool
  | [] => true
  | d :: ds => lf d && lfs ds
end
/-- with all tuples of the heap -/
def tupG (G H : Hp) : Hp := fun a => match H a with
  | some (.tup xs) => some (.tup xs)
  | _ => G a
section
variable {K : PySem.W.Frag} {G H G' H' : Hp}
theorem tupG_same (s : Same G H) : Same G (tupG G H) := fun a o e => by
  unfold tupG
  have h := s _ _ e
  rw [h]
  cases o <;> first | exact e | rfl
theorem tupG_heap (s : Same G H) : Same (tupG G H) H := fun a o e => by
  unfold tupG at e
  cases h : H a with
  | none => rw [h] at e; rw [s _ _ e] at h; cases h
  | some u =>
    rw [h] at e
    cases u with
    | tup xs => exact e
    | _ =>
      have q := s _ _ e
      rw [h] at q
      exact q
theorem tupG_none {a : Addr} {o : HO} (h : H a = some o) (m : Mut (some o)) (n : G a = none) : tupG G H a = none := by
  unfold tupG
  rw [h]
  cases o with
  | tup xs => exact m.elim
  | _ => exact n
mutual
theorem rp_tupG (s : Same G H) : ∀ (d : PD) (v : V), lf d = true → Rp K H v d → Rp K (tupG G H) v d
  | .none, _, _, h => by cases h; exact .non
  | .bool b, _, _, h => by cases h; exact .bl b
  | .int i, _, _, h => by cases h; exact .int i
  | .str x, _, _, h => by cases h; exact .str x
  | .list ds, _, l, _ => by simp [lf] at l
  | .tuple ds, _, l, h => by
    cases h with
    | tup h1 h2 =>
      refine .tup ?_ (rpA_tupG s ds _ (by simpa [lf] using l) h2)
      unfold tupG
      rw [h1]
  | .dict _, _, l, _ => by simp [lf] at l
theorem rpA_tupG (s : Same G H) : ∀ (ds : List PD) (vs : List V), lfs ds = true → RpA K H vs ds → RpA K (tupG G H) vs ds
  | [], _, _, h => by cases h; exact .nil
  | d :: ds, _, l, h => by
    cases h with
    | cons h1 h2 =>
      simp only [lfs, Bool.and_eq_true] at l
      exact .cons (rp_tupG s d _ l.1 h1) (rpA_tupG s ds _ l.2 h2)
end
end
def R.isIm : R → Bool
  | .im _ => true
  | _ => false
def Ty.lfv : (n : Nat) → Ty n → Bool
  | 0, d => lf d
  | n + 1, l => l.all (Ty.lfv n)
def R.flat : R → Bool
  | .im d => lf d
  | .ro _ _ => false
  | .fr n t => Ty.lfv (n + 1) t
theorem ATy.ok_lf {K : PySem.W.Frag} {G H G2 : Hp} (h2 : ∀ (d : PD) (v : V), lf d = true → Rp K G v d → Rp K G2 v d) : ∀ (n : Nat) (x : ATy n), Ty.lfv n (ATy.era n x) = true → ATy.ok K G H n x → ATy.ok K G2 H n x
  | 0, x, l, h => h2 _ _ l h
  | n + 1, x, l, h => ⟨h.1, fun y hy => by
    have l2 : ((x.2 : List (ATy n)).map (ATy.era n)).all (Ty.lfv n) = true := l
    rw [List.all_map, List.all_eq_true] at l2
    exact ATy.ok_lf h2 n y (l2 y hy) (h.2 y hy)⟩
@[simp] def callD (f : List PD → Out R) (a : AD) : ED := fun ρ => (a ρ).bind fun rs => match f (rs.map R.dat) with
  | .ok r => if rs.all R.isIm then .ok r else if r.flat then .ok r else .st
  | .ex c => .ex c
  | .st => .st
def SpF (K : PySem.W.Frag) (C : CM) (n : Nat) (f : List PD → Out R) : Sp := fun vs H Q E => ∃ G ds, Same G H ∧ RpA K G vs ds ∧ ds.length = n ∧ OOk K E C G H Q (f ds)
theorem ims_all : ∀ {rs : List R}, rs.all R.isIm = true → ims rs = some (rs.map R.dat)
  | [], _ => rfl
  | .im d :: rs, h => by
    have h2 : rs.all R.isIm = true := by simpa [R.isIm] using h
    show (ims rs).map (d :: ·) = _
    rw [ims_all h2]
    rfl
  | .ro _ _ :: _, h => by simp [R.isIm] at h
  | .fr _ _ :: _, h => by simp [R.isIm] at h
theorem sim_call {K : PySem.W.Frag} {E : XK} {C : CM} {n : Nat} {f : List PD → Out R} {ta : TA} {a : AD} (hn : ∀ ρ rs, a ρ = .ok rs → rs.length = n) (ha : SimA K E C ta a) : SimE K E C (tCall (SpF K C n f) [] E ta) (callD f a) := by
  intro G0 H0 G H σ ρ Q I h
  refine ha.use famO I h fun rs vs G1 H1 e1 g1 I1 k1 h1 => ?_
  rw [List.append_nil]
  have hl : (rs.map R.dat).length = n := by rw [List.length_map]; exact hn _ _ e1
  by_cases c : rs.all R.isIm = true
  · refine ⟨G1, rs.map R.dat, I1.s, k1.ims (ims_all c), hl, ?_⟩
    cases e : f (rs.map R.dat) with
    | ok r => simp only [e, if_pos c] at h1; exact h1
    | ex c => simp only [e] at h1; exact h1
    | st => simp only [e] at h1; exact h1
  · refine ⟨H1, rs.map R.dat, Same.refl _, k1.rp I1.s, hl, ?_⟩
    cases e : f (rs.map R.dat) with
    | ex c => simp only [e] at h1; exact fun G' H' g => h1 (tupG G1 H') H' ⟨tupG_same (I1.s.trans g.h), g.h, tupG_heap (I1.s.trans g.h), fun a o h2 h3 h4 => tupG_none (g.h _ _ h2) h3 h4⟩
    | st => simp only [e] at h1; exact h1
    | ok r =>
      simp only [e, if_neg c] at h1
      by_cases l : r.flat = true
      · rw [if_pos l] at h1
        intro v G' H' g hr
        have s' := I1.s.trans g.h
        refine h1 v (tupG G1 H') H' ⟨tupG_same s', g.h, tupG_heap s', fun a o h2 h3 h4 => tupG_none (g.h _ _ h2) h3 h4⟩ ?_
        have up : ∀ (d : PD) (v : V), lf d = true → Rp K G' v d → Rp K (tupG G1 H') v d := fun d v l h => rp_tupG s' d v l (h.up g.s)
        cases r with
        | im d => exact up d v l hr
        | ro n t => simp [R.flat] at l
        | fr n t =>
          obtain ⟨x, e1, e2, e3, e4, e5⟩ := hr
          subst e1
          refine ⟨x, rfl, e2, ATy.ok_lf up (n + 1) x l e3, e4, fun a ha => ⟨(e5 a ha).1, ?_⟩⟩
          obtain ⟨xs, hx⟩ := ATy.in_heap _ _ e3 a ha
          exact tupG_none hx trivial (I1.s.free (e5 a ha).1)
      · rw [if_neg l] at h1; exact h1.elim
/-- how many arguments there are -/
structure ALen (a : AD) (n : Nat) : Prop where
  l : ∀ ρ rs, a ρ = .ok rs → rs.length = n
theorem alen_nil : ALen nilA 0 := ⟨fun ρ rs h => by cases h; rfl⟩
theorem alen_cons {e : ED} {a : AD} {n : Nat} (h : ALen a n) : ALen (consA e a) (n + 1) := ⟨fun ρ rs q => by
  unfold consA at q
  cases e1 : e ρ with
  | ok r =>
    rw [e1] at q
    cases e2 : a ρ with
    | ok rs2 =>
      have q' : Out.ok (r.fz :: rs2) = Out.ok rs := by
        have := q
        simp only [Out.bind, e2] at this
        exact this
      cases q'
      simp [h.l ρ rs2 e2]
    | ex c => simp [Out.bind, e2] at q
    | st => simp [Out.bind, e2] at q
  | ex c => rw [e1] at q; simp [Out.bind] at q
  | st => rw [e1] at q; simp [Out.bind] at q⟩
section
variable {X : Cx} {E : XK} {C : CM}
theorem se_call {CX : CXT} {k n : Nat} {f : Addr} {fd : FuncData} {ps : List Str} {fn : List PD → Out R} {x : Str} {e : Expr} {es : List Expr} {a : AD} {p pos : Pos} (F : FnOk X.prog X.w X.K X.mg X.base CX k f fd ps (SpF X.K C n fn)) (hr : Room k X.A) (hx : Passes CX X E)
    (hm : X.mg x = some (.ref f)) (hk : PySem.W.keepIn X.K (.ref f) = true) (hb : Binds X.K fd ps []) (hl : ALen a n) (ha : SA X E C (e :: es) a) (hg : Gl X x := by rfl) (hdb : (x == ("__debug__" : Str)) = false := by decide) (he : starEach (e :: es) X.env = (false, eval e X.env) :: starEach es X.env := by rfl) (hpl : (backTo pos (starEach es X.env)).any (·.1) = false := by rfl) :
    SE X E C (.Call (.Name x p) (e :: es) [] pos) (callD fn a) := by
  obtain ⟨ta, pa, sa⟩ := ha
  exact ⟨_, pe_call F hr hg hm hk hb .nil hx pa hdb he hpl, sim_call hl.l sa⟩

/-! ### a def from its body -/
def denF (m n : Nat) (d : SD) : List PD → Out R := fun ds => match d (ds.map Ent.im ++ List.replicate (m - n) Ent.no) with
  | .nx _ => .ok (.im .none)
  | .rt r => .ok r
  | .rv r _ => .ok r
  | .ex c => .ex c
  | .ev c _ => .ex c
  | _ => .st
theorem start_ok {K : PySem.W.Frag} {G H : Hp} {N : List Str} {vs : List V} {ds : List PD} {n : Nat} (s : Same G H) (r : RpA K G vs ds) (hn : ds.length = n) (hN : n ≤ N.length) : EnvOk K G H G H (L2.start N vs) (ds.map Ent.im ++ List.replicate (N.length - n) Ent.no) := by
  have hl := r.length
  refine ⟨by simp [L2.start]; omega, Grow.refl s, fun _ => none, fun i e he => ?_⟩
  by_cases h : i < ds.length
  · rw [List.getElem?_append_left (by simpa using h)] at he
    rw [List.getElem?_map] at he
    cases q : ds[i]? with
    | none => rw [q] at he; cases he
    | some d =>
      rw [q] at he
      cases he
      obtain ⟨v, e1, e2⟩ := r.getD q
      refine ⟨v, ?_, e2⟩
      unfold L2.start
      rw [List.getD_eq_getElem?_getD, List.getElem?_append_left (by simpa [hl] using h), List.getElem?_map, e1]
      rfl
  · rw [List.getElem?_append_right (by simpa using h)] at he
    have e2 := List.mem_of_getElem? he
    rw [List.mem_replicate] at e2
    rw [e2.2]
    trivial
section
variable {P : Program} {w : World} {K : PySem.W.Frag} {mg : Str → Option Value} {base : Heap}
theorem fnOk_of {x qual : Str} {params : Arguments} {body : List Stmt} {scope : Scope} {f : Addr} {fd : FuncData} {N ps : List Str} {k n : Nat} {den : SD} (F : FunD K x qual params body scope [] [] f fd) (S : FnScope N ps scope) (hn : ps.length = n) (hN : n ≤ N.length)
    (hbody : ∀ (cdv : Value) (A : Around) (outer : List PySem.Env) (s : Shared) (H : Hp) (E : XK), Room k (A.deeper (envOfC qual scope s.heap.objs.size f cdv)) →
      SB (cxOf (L2N.CX P w) P w K mg base N qual scope f cdv A outer s H E) E C body den) :
    FnOk P w K mg base (L2N.CX P w) (k + 1) f fd ps (SpF K C n (denF N.length n den)) := by
  refine F.ok S (fun vs H Q E h => ?_) (fun cdv A outer s H vs Q E hr h => ?_)
  · obtain ⟨G, ds, s, r, l, _⟩ := h
    rw [r.length, l, hn]
  · obtain ⟨G, ds, sm, r, l, q⟩ := h
    obtain ⟨t, p, sim⟩ := hbody cdv A outer s H E hr
    refine ⟨t, p, sim G H G H _ _ _ (start_ok sm r l hN) ?_⟩
    unfold denF at q
    split at q
    · rename_i ρ e
      rw [e]
      exact fun σ G' H' _ I => q .non G' H' I.b .non
    · rename_i r e
      rw [e]
      exact fun v G' H' g hr => q v G' H' g hr
    · rename_i r ρ e
      rw [e]
      exact fun v σ G' H' s I hr => q v G' H' I.b hr
    · rename_i c e
      rw [e]
      exact fun G' H' g => q G' H' g
    · rename_i c ρ e
      rw [e]
      exact fun σ G' H' s I => q G' H' I.b
    · exact q.elim
/-- a def of the text that others call -/
structure Cal (P : Program) (w : World) (K : PySem.W.Frag) (mg : Str → Option Value) (base : Heap) (C : CM) (x : Str) (k n : Nat) (ps : List Str) (fn : List PD → Out R) : Prop where
  p : ∃ (f : Addr) (fd : FuncData), FnOk P w K mg base (L2N.CX P w) k f fd ps (SpF K C n fn) ∧ mg x = some (.ref f) ∧ PySem.W.keepIn K (.ref f) = true ∧ Binds K fd ps []
theorem FnOk.of_eq {CX : CXT} {k n : Nat} {f : Addr} {fd : FuncData} {ps : List Str} {fn fn' : List PD → Out R} (F : FnOk P w K mg base CX k f fd ps (SpF K C n fn)) (h : fn = fn') : FnOk P w K mg base CX k f fd ps (SpF K C n fn') := h ▸ F
end

theorem se_cal {k kk n : Nat} {ps : List Str} {fn : List PD → Out R} {x : Str} {e : Expr} {es : List Expr} {a : AD} {p pos : Pos} (G : Cal X.prog X.w X.K X.mg X.base C x k n ps fn) (hr : Room kk X.A) (hk : k ≤ kk) (hx : Passes (L2N.CX X.prog X.w) X E)
    (hl : ALen a n) (ha : SA X E C (e :: es) a) (hg : Gl X x := by rfl) (hdb : (x == ("__debug__" : Str)) = false := by decide) (he : starEach (e :: es) X.env = (false, eval e X.env) :: starEach es X.env := by rfl) (hpl : (backTo pos (starEach es X.env)).any (·.1) = false := by rfl) :
    SE X E C (.Call (.Name x p) (e :: es) [] pos) (callD fn a) := by
  obtain ⟨f, fd, F, hm, hkp, hb⟩ := G.p
  exact se_call F (hr.mono hk) hx hm hkp hb hl ha hg hdb he hpl
theorem room65 {k : Nat} {A : Around} (hr : Room k A) : A.units + 65 < cLine := by have := hr.un; omega
theorem room64 {k : Nat} {A : Around} (hr : Room k A) : A.units + 64 < cLine := by have := hr.un; omega
/-! ### statements -/
theorem sb_nil : SB X E C [] (fun ρ => .nx ρ) := ⟨_, pss_nil, fun G0 H0 G H σ ρ D I h => h σ G H (Same.refl _) I⟩
def seqD (a b : SD) : SD := fun ρ => match a ρ with
  | .nx ρ' => b ρ'
  | o => o
theorem sim_seq {K : PySem.W.Frag} {ta tb : TS} {a b : SD} (ha : SimS K E C ta a) (hb : SimS K E C tb b) : SimS K E C (tSeq ta tb) (seqD a b) := by
  intro G0 H0 G H σ ρ D I h
  refine ha G0 H0 G H σ ρ _ I ?_
  unfold seqD at h
  cases e : a ρ with
  | nx ρ' => rw [e] at h; exact fun σ' G' H' s' I' => hb G0 H0 G' H' σ' ρ' D I' (SOk.up h s')
  | rt r => rw [e] at h; exact h
  | rv r ρ' => rw [e] at h; exact h
  | ev r ρ' => rw [e] at h; exact h
  | bk r => rw [e] at h; exact h
  | ct r => rw [e] at h; exact h
  | ex r => rw [e] at h; exact h
  | st => rw [e] at h; exact h
theorem sb_cons {st : Stmt} {rest : List Stmt} {a b : SD} (ha : SS X E C st a) (hb : SB X E C rest b) : SB X E C (st :: rest) (seqD a b) := by
  obtain ⟨ta, pa, sa⟩ := ha
  obtain ⟨tb, pb, sb⟩ := hb
  exact ⟨_, pss_cons pa pb, sim_seq sa sb⟩
theorem sb_one {st : Stmt} {a : SD} (ha : SS X E C st a) : SB X E C [st] a := by
  obtain ⟨ta, pa, sa⟩ := ha
  exact ⟨_, pss_one pa, sa⟩
/-- the entry of a result -/
def entOf : R → Option Ent
  | .im d => some (.im d)
  | .fr n t => some (.ow n t)
  | .ro _ _ => none
theorem getD_set_ne {σ : L2.St} {i j : Nat} {o : Option V} (h : i ≠ j) : (σ.set i o).getD j none = σ.getD j none := by
  rw [List.getD_eq_getElem?_getD, List.getD_eq_getElem?_getD, List.getElem?_set_ne h]
theorem getD_set_self {σ : L2.St} {i : Nat} {o : Option V} (h : i < σ.length) : (σ.set i o).getD i none = o := by
  rw [List.getD_eq_getElem?_getD, List.getElem?_set_self h] <;> rfl
/-- a new entry at i: the others' lists are where they were -/
theorem EnvOk.put {K : PySem.W.Frag} {G0 H0 G H : Hp} {σ : L2.St} {ρ : Env} {i : Nat} {e : Ent} {o : Option V} (I : EnvOk K G0 H0 G H σ ρ)
    (he : ∀ w : Addr → Option Nat, (∀ (j : Nat) (e : Ent), ρ[j]? = some e → EntOk K H0 G H w j e (σ.getD j none)) → ∃ w', EntOk K H0 G H w' i e o ∧ ∀ (j : Nat) (e : Ent), j ≠ i → ρ[j]? = some e → EntOk K H0 G H w' j e (σ.getD j none)) : EnvOk K G0 H0 G H (σ.set i o) (ρ.set i e) := by
  obtain ⟨len, b, w, hw⟩ := I
  obtain ⟨w', h1, h2⟩ := he w hw
  refine ⟨by simp [len], b, w', fun j e' hj => ?_⟩
  by_cases c : i = j
  · subst c
    by_cases hi : i < ρ.length
    · rw [List.getElem?_set_self hi] at hj
      cases hj
      rw [getD_set_self (by omega)]
      exact h1
    · rw [List.getElem?_eq_none (by simp; omega)] at hj
      cases hj
  · rw [List.getElem?_set_ne c] at hj
    rw [getD_set_ne c]
    exact h2 j e' (Ne.symm c) hj
theorem EnvOk.setIm {K : PySem.W.Frag} {G0 H0 G H : Hp} {σ : L2.St} {ρ : Env} {d : PD} {v : V} (I : EnvOk K G0 H0 G H σ ρ) (i : Nat) (r : Rp K G v d) : EnvOk K G0 H0 G H (σ.set i (some v)) (ρ.set i (.im d)) :=
  I.put fun w hw => ⟨w, ⟨v, rfl, r⟩, fun j e _ h => hw j e h⟩
theorem EnvOk.setNo {K : PySem.W.Frag} {G0 H0 G H : Hp} {σ : L2.St} {ρ : Env} {o : Option V} (I : EnvOk K G0 H0 G H σ ρ) (i : Nat) : EnvOk K G0 H0 G H (σ.set i o) (ρ.set i .no) :=
  I.put fun w hw => ⟨w, trivial, fun j e _ h => hw j e h⟩
/-- a new owned list: it is new against an earlier heap in which the others' lists stood -/
theorem EnvOk.setFr {K : PySem.W.Frag} {G0 H0 G H G' H' : Hp} {σ : L2.St} {ρ : Env} {n : Nat} {t : Ty (n + 1)} {v : V} (I : EnvOk K G0 H0 G H σ ρ) (g : Grow G H G' H') (i : Nat) (r : ROk K H G' H' (.fr n t) v) : EnvOk K G0 H0 G' H' (σ.set i (some v)) (ρ.set i (.ow n t)) := by
  obtain ⟨x, e1, e2, e3, e4, e5⟩ := r
  obtain ⟨len, b, w0, hw0⟩ := I
  refine EnvOk.put (EnvOk.grow ⟨len, b, w0, hw0⟩ g) fun w hw => ?_
  refine ⟨fun a => if a ∈ ATy.adr (n + 1) x then some i else w0 a, ⟨x, by rw [e2], e1, e3, e4, fun a ha => ⟨if_pos ha, (e5 a ha).2, b.h.free (e5 a ha).1⟩⟩, fun j e hj he => ?_⟩
  have h := hw0 j e he
  have h' := h.grow g
  cases e with
  | no => trivial
  | im d => exact h'
  | vv v => exact h'
  | ob a C fs =>
    obtain ⟨z1, z2, z3, dx, vs, z4, z5⟩ := h'
    obtain ⟨_, _, _, _, _, y4, _⟩ := h
    refine ⟨z1, ?_, z3, dx, vs, z4, z5⟩
    show (if a ∈ ATy.adr (n + 1) x then some i else w0 a) = some j
    rw [if_neg]
    · exact z2
    · intro q
      have := (e5 a q).1
      rw [y4] at this
      cases this
  | ow m u =>
    obtain ⟨y, y1, y2, y3, y4, y5⟩ := h
    obtain ⟨y', z1, z2, z3, z4, z5⟩ := h'
    refine ⟨y, y1, y2, ATy.ok_mono g.g g.h _ _ y3, y4, fun a ha => ⟨?_, g.m a _ (ATy.in_heap _ _ y3 a ha).choose_spec trivial (y5 a ha).2.1, (y5 a ha).2.2⟩⟩
    show (if a ∈ ATy.adr (n + 1) x then some i else w0 a) = some j
    rw [if_neg]
    · exact (y5 a ha).1
    · intro q
      obtain ⟨xs, hx⟩ := ATy.in_heap _ _ y3 a ha
      rw [(e5 a q).1] at hx
      cases hx
def bindS (o : Out R) (k : R → SO) : SO := match o with
  | .ok r => k r
  | .ex c => .ex c
  | .st => .st
/-- an expression, then what a statement does with it -/
theorem SimE.useS {K : PySem.W.Frag} {G0 H0 G H : Hp} {σ : L2.St} {ρ : Env} {D : Ends} {te : TE} {e : ED} {k : R → SO} (he : SimE K E C te e) (I : EnvOk K G0 H0 G H σ ρ) (h : SOk K E C G0 H0 G D (bindS (e ρ) k)) {Q : VK}
    (kk : ∀ r v G' H', e ρ = .ok r → Grow G H G' H' → EnvOk K G0 H0 G' H' σ ρ → ROk K H G' H' r v → SOk K E C G0 H0 G' D (k r) → Q v H') : te σ H Q := by
  refine he G0 H0 G H σ ρ Q I ?_
  cases e1 : e ρ with
  | ok r => rw [e1] at h; exact fun v G' H' g hr => kk r v G' H' e1 g (I.grow g) hr (SOk.up h g.g)
  | ex c => rw [e1] at h; exact fun G' H' g => h G' H' (I.b.trans g)
  | st => rw [e1] at h; exact h
theorem SimE.useSF {K : PySem.W.Frag} {G0 H0 G H : Hp} {σ : L2.St} {ρ : Env} {D : Ends} {te : TE} {e : ED} {k : R → SO} (he : SimE K E C te e) (I : EnvOk K G0 H0 G H σ ρ) (h : SOk K E C G0 H0 G D (bindS (e ρ) k)) {Q : VK}
    (kk : ∀ r v G' H', e ρ = .ok r → Grow G H G' H' → EnvOk K G0 H0 G' H' σ ρ → ROk K hpE G' H' r.fz v → SOk K E C G0 H0 G' D (k r) → Q v H') : te σ H Q := by
  refine he.useS I h fun r v G' H' e1 g I' hr h' => ?_
  cases r with
  | im d => exact kk _ v G' H' e1 g I' hr h'
  | ro n t => exact kk _ v G' H' e1 g I' hr h'
  | fr n t =>
    obtain ⟨G2, s2, g2, r2⟩ := hr.freeze g.s g
    exact kk _ v G2 H' e1 g2 (I.grow g2) r2 (SOk.up h' s2)
theorem SimT.useS {K : PySem.W.Frag} {G0 H0 G H : Hp} {σ : L2.St} {ρ : Env} {D : Ends} {te : TT} {e : TD} {k : Bool → SO} (he : SimT K E C te e) (I : EnvOk K G0 H0 G H σ ρ) (h : SOk K E C G0 H0 G D (match e ρ with
    | .ok b => k b
    | .ex c => .ex c
    | .st => .st)) {Q : Bool → Hp → Prop}
    (kk : ∀ b G' H', e ρ = .ok b → Grow G H G' H' → EnvOk K G0 H0 G' H' σ ρ → SOk K E C G0 H0 G' D (k b) → Q b H') : te σ H Q := by
  refine he G0 H0 G H σ ρ Q I ?_
  cases e1 : e ρ with
  | ok r => rw [e1] at h; exact fun G' H' g => kk r G' H' e1 g (I.grow g) (SOk.up h g.g)
  | ex c => rw [e1] at h; exact fun G' H' g => h G' H' (I.b.trans g)
  | st => rw [e1] at h; exact h
def asgD (i : Nat) (e : ED) : SD := fun ρ => bindS (e ρ) fun r => match entOf r with
  | some n => .nx (ρ.set i n)
  | none => .st
theorem sim_asg {K : PySem.W.Frag} {te : TE} {e : ED} (i : Nat) (he : SimE K E C te e) : SimS K E C (tAsg te (gName i)) (asgD i e) := by
  intro G0 H0 G H σ ρ D I h
  refine he.useS I h fun r v G' H' e1 g I' hr h' => ?_
  cases r with
  | im d => exact h' _ G' H' (Same.refl _) (I'.setIm i hr)
  | ro n t => exact h'.elim
  | fr n t => exact h' _ G' H' (Same.refl _) (I.setFr g i hr)
theorem ss_asg {x : Str} {e : Expr} {d : ED} {pos' pos : Pos} (i : Nat) (hN : X.N.Nodup) (hx : Loc X.env.scope x) (he : SE X E C e d) (hi : X.N[i]? = some x := by rfl) (hs : swapsWith e (some (.Name x pos')) pos.line X.env = pure false := by rfl) (hf : X.fn x = true ∨ X.env.scope.names.lookup x = some .local := by first | exact .inl rfl | exact .inr rfl | assumption) :
    SS X E C (.Assign [.Name x pos'] e pos) (asgD i d) := by
  obtain ⟨te, pe, se⟩ := he
  exact ⟨_, ps_set hN hi hx pe hs hf, sim_asg i se⟩
def exprD (e : ED) : SD := fun ρ => bindS (e ρ) fun _ => .nx ρ
theorem ss_expr {e : Expr} {d : ED} {pos : Pos} (he : SE X E C e d) (hs : swapsWith e none pos.line X.env = pure false := by rfl) : SS X E C (.Expr e pos) (exprD d) := by
  obtain ⟨te, pe, se⟩ := he
  refine ⟨_, ps_expr pe hs, fun G0 H0 G H σ ρ D I h => ?_⟩
  exact se.useS I h fun r v G' H' e1 g I' hr h' => h' σ G' H' (Same.refl _) I'
@[simp] def retD (e : ED) : SD := fun ρ => bindS (e ρ) fun r => match r with
  | .ro _ _ => .st
  | r => .rt r
theorem ss_ret {e : Expr} {d : ED} {pos : Pos} (he : SE X E C e d) : SS X E C (.Return (some e) pos) (retD d) := by
  obtain ⟨te, pe, se⟩ := he
  refine ⟨_, ps_ret pe, fun G0 H0 G H σ ρ D I h => ?_⟩
  refine se.useS I h fun r v G' H' e1 g I' hr h' => ?_
  cases r with
  | im d => exact h' v G' H' I'.b hr
  | ro n t => exact h'.elim
  | fr n t => exact h' v G' H' I'.b (hr.base I.b.h)
/-- return x, x an owned list: it is handed over -/
def retVD (i : Nat) : SD := fun ρ => match ρ[i]? with
  | some (.im d) => .rt (.im d)
  | some (.ow n t) => .rt (.fr n t)
  | _ => .st
theorem ss_retV (i : Nat) {x : Str} {p pos : Pos} (hN : X.N[i]? = some x := by rfl) (hv : Vis X.env.scope x := by first | exact Or.inl rfl | exact Or.inr (Or.inl rfl) | exact Or.inr (Or.inr rfl)) (hd : (x == ("__debug__" : Str)) = false := by decide)
    (hcd : (x == ("__classdict__" : Str)) = false := by decide) : SS X E C (.Return (some (.Name x p)) pos) (retVD i) := by
  refine ⟨_, ps_ret (pe_var hN hv hd hcd), fun G0 H0 G H σ ρ D I h => ?_⟩
  obtain ⟨len, b, w, he⟩ := I
  unfold retVD at h
  cases e : ρ[i]? with
  | none => rw [e] at h; exact h.elim
  | some x =>
    rw [e] at h
    have q := he i x e
    cases x with
    | no => exact h.elim
    | im d =>
      obtain ⟨v, ev, r⟩ := q
      exact ⟨v, getD_some ev, h v G H b r⟩
    | ow n t =>
      obtain ⟨y, ev, e2, e3, e4, e5⟩ := q
      exact ⟨_, getD_some ev, h _ G H b ⟨y, e2, rfl, e3, e4, fun a ha => ⟨(e5 a ha).2.2, (e5 a ha).2.1⟩⟩⟩
    | vv v => exact h.elim
    | ob a C fs => exact h.elim
theorem ss_retN {pos : Pos} : SS X E C (.Return none pos) (fun _ => .rt (.im .none)) := ⟨_, ps_retN, fun G0 H0 G H σ ρ D I h => h .non G H I.b .non⟩
def ifD (t : TD) (a b : SD) : SD := fun ρ => match t ρ with
  | .ok c => if c = true then a ρ else b ρ
  | .ex c => .ex c
  | .st => .st
theorem ss_if {c : Expr} {sa sb : List Stmt} {t : TD} {a b : SD} {pos : Pos} (hc : ST X E C c t) (ha : SB X E C sa a) (hb : SB X E C sb b) : SS X E C (.If c sa sb pos) (ifD t a b) := by
  obtain ⟨tc, pc, sc⟩ := hc
  obtain ⟨ta, pa, sa⟩ := ha
  obtain ⟨tb, pb, sb⟩ := hb
  refine ⟨_, ps_if pc pa pb, fun G0 H0 G H σ ρ D I h => ?_⟩
  refine sc.useS (k := fun c => if c = true then a ρ else b ρ) I h fun c G' H' e1 g I' h' => ?_
  cases c with
  | true => exact sa G0 H0 G' H' σ ρ D I' h'
  | false => exact sb G0 H0 G' H' σ ρ D I' h'
theorem ss_pass {pos : Pos} : SS X E C (.Pass pos) (fun ρ => .nx ρ) := ⟨_, ps_pass, fun G0 H0 G H σ ρ D I h => h σ G H (Same.refl _) I⟩
theorem ss_break {pos : Pos} : SS X E C (.Break pos) (fun ρ => .bk ρ) := ⟨_, ps_break, fun G0 H0 G H σ ρ D I h => h σ G H (Same.refl _) I⟩
theorem ss_cont {pos : Pos} : SS X E C (.Continue pos) (fun ρ => .ct ρ) := ⟨_, ps_continue, fun G0 H0 G H σ ρ D I h => h σ G H (Same.refl _) I⟩
/-- raise X('..') -/
theorem ss_raise {x m : Str} {c : String} {CE : Addr} {j : Nat} {p p2 pos pos2 : Pos} {bmB : List Value} {B newId initId : String} (hc : X.calm = true) (tk : L2N.Takes X (fun cls d _ H => E cls d H)) (hC : C c = .ref CE)
    (F : ExcBaseFacts B newId initId bmB) (q : PySem.W.excIn X.K CE bmB newId = true) (gC : X.mg x = some (.ref CE)) (kC : PySem.W.keepIn X.K (.ref CE) = true) (r : Raises X (.ref CE)) (hg : Gl X x) (hdb : (x == ("__debug__" : Str)) = false := by decide) :
    SS X E C (.Raise (some (.Call (.Name x p) [.Constant (.str m) j p2] [] pos)) none pos2) (fun _ => .ex c) := by
  refine ⟨_, L2N.ps_raise hc tk (L2N.pmk_own F q gC kC r hg hdb), fun G0 H0 G H σ ρ D I h => ?_⟩
  have h' := h G H I.b
  rw [hC] at h'
  exact h'
/-- what was told of an owned list from here on: it is known for ever -/
@[simp] def frzD (i : Nat) : SD := fun ρ => match ρ[i]? with
  | some (.ow n t) => .nx (ρ.set i (.im (Ty.dat (n + 1) t)))
  | _ => .nx ρ
theorem EnvOk.freeze {K : PySem.W.Frag} {G0 H0 G H : Hp} {σ : L2.St} {ρ : Env} {i n : Nat} {t : Ty (n + 1)} (I : EnvOk K G0 H0 G H σ ρ) (hi : ρ[i]? = some (.ow n t)) : ∃ G', Same G G' ∧ EnvOk K G0 H0 G' H σ (ρ.set i (.im (Ty.dat (n + 1) t))) := by
  obtain ⟨len, b, w, hw⟩ := I
  obtain ⟨x, x1, x2, x3, x4, x5⟩ := hw i _ hi
  have hs : Same G (know G H (ATy.adr (n + 1) x)) := know_same b.s fun a ha => (x5 a ha).2.1
  refine ⟨know G H (ATy.adr (n + 1) x), hs, by simp [len], ⟨b.g.trans hs, b.h, know_heap b.s, fun a o h1 h2 h3 => ?_⟩, w, fun j e he => ?_⟩
  · by_cases h : a ∈ ATy.adr (n + 1) x
    · rw [(x5 a h).2.2] at h1; cases h1
    · rw [know_out h]; exact b.m a o h1 h2 h3
  · by_cases c : i = j
    · subst c
      have hl : i < ρ.length := (List.getElem?_eq_some_iff.mp hi).1
      rw [List.getElem?_set_self hl] at he
      cases he
      refine ⟨_, x1, ?_⟩
      rw [← x2]
      exact ATy.known (n + 1) x (fun a ha => know_in ha) hs x3
    · rw [List.getElem?_set_ne c] at he
      have h := hw j e he
      cases e with
      | no => trivial
      | im d => obtain ⟨v, e1, e2⟩ := h; exact ⟨v, e1, e2.up hs⟩
      | vv v => exact h
      | ob a C fs =>
        obtain ⟨z1, z2, z3, dx, vs, z4, z5⟩ := h
        refine ⟨z1, z2, ⟨?_, z3.2⟩, dx, vs, z4, z5.up hs⟩
        rw [know_out]
        · exact z3.1
        · intro q
          have e1 := (x5 a q).1
          rw [z2] at e1
          exact c (Option.some.inj e1).symm
      | ow m u =>
        obtain ⟨y, y1, y2, y3, y4, y5⟩ := h
        refine ⟨y, y1, y2, ATy.ok_mono hs (Same.refl _) _ _ y3, y4, fun a ha => ⟨(y5 a ha).1, ?_, (y5 a ha).2.2⟩⟩
        rw [know_out]
        · exact (y5 a ha).2.1
        · intro q
          have e1 := (x5 a q).1
          rw [(y5 a ha).1] at e1
          exact c (Option.some.inj e1).symm
/-- ahead of a block -/
theorem sb_frz {b : List Stmt} {d : SD} (i : Nat) (hb : SB X E C b d) : SB X E C b (seqD (frzD i) d) := by
  obtain ⟨tb, pb, sb⟩ := hb
  refine ⟨_, pb, fun G0 H0 G H σ ρ D I h => ?_⟩
  unfold seqD frzD at h
  split at h
  · rename_i ρ' e
    split at e
    · rename_i n t q
      cases e
      obtain ⟨G', s', I'⟩ := I.freeze q
      exact sb G0 H0 G' H σ _ D I' (SOk.up h s')
    · cases e
      exact sb G0 H0 G H σ _ D I h
  · rename_i o e
    split at e
    · exact absurd rfl (e _)
    · exact absurd rfl (e _)
end
end Z

/-! ## Z7 -/
set_option Elab.async false
set_option linter.all false
set_option maxRecDepth 100000
set_option maxHeartbeats 2000000
namespace Z
open PySem PySem.Spec PyProof.Rows L2

/-! ### what is walked -/
def YOk (K : PySem.W.Frag) (G H H' : Hp) (v : V) (d : PD) : Prop := ∀ G', Same G G' → Same G' H → ∃ G'', Grow G' H G'' H' ∧ Rp K G'' v d
def Walks (K : PySem.W.Frag) (J : It) (G : Hp) (ds : List PD) (S : Hp → Prop) : Prop := ∀ i H, S H →
  (ds.length ≤ i → J.stop i H) ∧ ∀ d, ds[i]? = some d → J.go i H ∧ ∀ v H', J.yld i H v H' → YOk K G H H' v d
abbrev LD := Env → Out (List PD)
/-- for a for: the things are known for ever -/
structure SI (X : Cx) (E : XK) (C : CM) (tg e : Expr) (s : LD) : Prop where
  p : ∃ wi, PI X tg e wi ∧ ∀ G0 H0 G H σ ρ (Q : It → Hp → Prop), EnvOk X.K G0 H0 G H σ ρ → (match s ρ with
    | .ok ds => ∀ J G' H', Grow G H G' H' → Walks X.K J G' ds (fun H2 => Same G' H2) → Q J H'
    | .ex c => ∀ G' H', Grow G H G' H' → E (C c) none H'
    | .st => False) → wi σ H Q
/-- for a comprehension: the heap only grows -/
structure SJ (X : Cx) (E : XK) (C : CM) (tg e : Expr) (s : LD) : Prop where
  p : ∃ wi, PI X tg e wi ∧ ∀ G0 H0 G H σ ρ (Q : It → Hp → Prop), EnvOk X.K G0 H0 G H σ ρ → (match s ρ with
    | .ok ds => ∀ J G' H', Grow G H G' H' → Walks X.K J G' ds (fun H2 => Same H' H2) → Q J H'
    | .ex c => ∀ G' H', Grow G H G' H' → E (C c) none H'
    | .st => False) → wi σ H Q
def ItOk (K : PySem.W.Frag) (E : XK) (C : CM) (S : Hp → Hp → Hp → Prop) (Q : It → Hp → Prop) (G H : Hp) : Out (List PD) → Prop
  | .ok ds => ∀ J G' H', Grow G H G' H' → Walks K J G' ds (S G' H') → Q J H'
  | .ex c => ∀ G' H', Grow G H G' H' → E (C c) none H'
  | .st => False
theorem famI {K : PySem.W.Frag} {E : XK} {C : CM} {S : Hp → Hp → Hp → Prop} {Q : It → Hp → Prop} : Fam E C (ItOk K E C S Q) := ⟨fun {G H G' H' o} h g => by
  cases o with
  | ok r => exact fun J G2 H2 g2 => h J G2 H2 (g.trans g2)
  | ex c => exact fun G2 H2 g2 => h G2 H2 (g.trans g2)
  | st => exact h, fun h => h, fun h => h⟩
@[simp] def itD (e : ED) : LD := fun ρ => (e ρ).bind fun r => match r.fz with
  | .im (.list ds) => .ok ds
  | .im (.dict [(.none, .list ds)]) => .ok ds
  | _ => .st
/-- also of an owned list -/
@[simp] def itJ (e : ED) : LD := fun ρ => (e ρ).bind fun r => match kidsS r.fz with
  | some ds => .ok ds
  | none => .st
theorem walks_list {K : PySem.W.Frag} {G : Hp} {a : Addr} {vs : List V} {ds : List PD} {S : Hp → Prop} (hS : ∀ H, S H → SqL K H a vs ∧ Same G H) (r : RpA K G vs ds) : Walks K (Itl K a) G ds S := by
  intro i H hs
  obtain ⟨h1, s⟩ := hS H hs
  refine ⟨fun hi => ⟨vs, h1, by rw [r.length]; exact hi⟩, fun d hd => ?_⟩
  obtain ⟨v, hv, rv⟩ := r.getD hd
  refine ⟨⟨vs, v, h1, hv⟩, fun v' H' hy => ?_⟩
  obtain ⟨rfl, hy⟩ := hy
  have e : vs[i]? = some v' := hy vs h1
  rw [hv] at e
  cases e
  exact fun G' s1 s2 => ⟨G', Grow.refl s2, rv.up s1⟩
section
variable {X : Cx} {E : XK} {C : CM}
theorem si_list {tg e : Expr} {d : ED} (he : SE X E C e d) : SI X E C tg e (itD d) := by
  obtain ⟨te, pe, se⟩ := he
  refine ⟨_, pi_list pe, fun G0 H0 G H σ ρ Q I h => ?_⟩
  refine se.useF (P := ItOk X.K E C (fun G' _ H2 => Same G' H2) Q) famI I h fun r x G1 H1 e1 g1 I1 k1 h1 => ?_
  split at h1
  · rename_i ds q
    rw [q] at k1
    cases k1 with
    | lst h2 h3 => exact ⟨_, rfl, ⟨_, SqL.of (I1.s _ _ h2)⟩, h1 _ G1 H1 (Grow.refl I1.s) (walks_list (fun H hs => ⟨SqL.of (hs _ _ h2), hs⟩) h3)⟩
  · rename_i ds q
    rw [q] at k1
    cases k1 with
    | scr ns h2 => exact ⟨_, rfl, ⟨_, I1.s.seq h2⟩, h1 _ G1 H1 (Grow.refl I1.s) (walks_list (fun H hs => ⟨hs.seq h2, hs⟩) (rpA_ints ns))⟩
  · exact h1.elim
theorem sj_list {tg e : Expr} {d : ED} (he : SE X E C e d) : SJ X E C tg e (itJ d) := by
  obtain ⟨te, pe, se⟩ := he
  refine ⟨_, pi_list pe, fun G0 H0 G H σ ρ Q I h => ?_⟩
  refine se.useF (P := ItOk X.K E C (fun _ H' H2 => Same H' H2) Q) famI I h fun r x G1 H1 e1 g1 I1 k1 h1 => ?_
  split at h1
  · rename_i ds q
    obtain ⟨a, vs, rfl, h2, h3⟩ := k1.kidsS I1.s q
    exact ⟨_, rfl, ⟨_, h2⟩, h1 _ G1 H1 (Grow.refl I1.s) (walks_list (fun H hs => ⟨hs.seq h2, I1.s.trans hs⟩) h3)⟩
  · exact h1.elim
theorem SI.j {tg e : Expr} {s : LD} (h : SI X E C tg e s) : SJ X E C tg e s := by
  obtain ⟨wi, p, q⟩ := h
  refine ⟨wi, p, fun G0 H0 G H σ ρ Q I h => q G0 H0 G H σ ρ Q I ?_⟩
  cases e : s ρ with
  | ok ds => rw [e] at h; exact fun J G' H' g w => h J G' H' g fun i H2 s2 => w i H2 (g.s.trans s2)
  | ex c => rw [e] at h; exact h
  | st => rw [e] at h; exact h
/-- range(n), range(a, b) -/
@[simp] noncomputable def rg1D (e : ED) : LD := fun ρ => (e ρ).bind fun r => match r.dat with
  | .int n => @ite _ (-100000 ≤ n ∧ n ≤ 100000) (Classical.propDecidable _) (.ok ((rangeL 0 n).map PyData.int)) .st
  | _ => .st
@[simp] noncomputable def rg2D (e f : ED) : LD := fun ρ => (e ρ).bind fun r => (f ρ).bind fun r2 => match r.dat, r2.dat with
  | .int a, .int n => @ite _ ((-100000 ≤ a ∧ a ≤ 100000) ∧ (-100000 ≤ n ∧ n ≤ 100000)) (Classical.propDecidable _) (.ok ((rangeL a n).map PyData.int)) .st
  | _, _ => .st
theorem walks_rng {K : PySem.W.Frag} {G : Hp} {a b : Int} {S : Hp → Prop} : Walks K (Itr a (b - a).toNat) G ((rangeL a b).map PyData.int) S := by
  intro i H hs
  have hl : ((rangeL a b).map PyData.int).length = (b - a).toNat := by simp [rangeL]
  refine ⟨fun hi => by rw [hl] at hi; exact hi, fun d hd => ?_⟩
  obtain ⟨h1, h2⟩ := List.getElem?_eq_some_iff.mp hd
  rw [hl] at h1
  refine ⟨h1, fun v H' hy => ?_⟩
  obtain ⟨rfl, rfl⟩ := hy
  have e : d = .int (a + (i : Nat)) := by rw [← h2]; simp [rangeL]
  rw [e]
  exact fun G' s1 s2 => ⟨G', Grow.refl s2, .int _⟩
theorem si_rg1 {tg e : Expr} {d : ED} {p pos : Pos} (hg : Gl X "range") (hm : X.mg "range" = none) (he : SE X E C e d) (hs : starEach [e] X.env = [(false, eval e X.env)] := by rfl) : SI X E C tg (.Call (.Name "range" p) [e] [] pos) (rg1D d) := by
  obtain ⟨te, pe, se⟩ := he
  refine ⟨_, pi_range1 hg hm (pa_cons pe pa_nil hs) hs, fun G0 H0 G H σ ρ Q I h => ?_⟩
  refine se.use (P := ItOk X.K E C (fun G' _ H2 => Same G' H2) Q) famI I h fun r x G1 H1 e1 g1 I1 k1 h1 => ?_
  have k := k1.rp I1.s
  split at h1
  · rename_i n q
    rw [q] at k
    cases k
    split at h1
    · rename_i c
      refine ⟨n, rfl, by omega, by omega, ?_⟩
      have e : n.toNat = (n - 0).toNat := by simp
      rw [e]
      exact h1 _ G1 H1 (Grow.refl I1.s) walks_rng
    · exact h1.elim
  · exact h1.elim
theorem si_rg2 {tg e f : Expr} {d d2 : ED} {p pos : Pos} (hg : Gl X "range") (hm : X.mg "range" = none) (he : SE X E C e d) (hf : SE X E C f d2) (hs : starEach [e, f] X.env = [(false, eval e X.env), (false, eval f X.env)] := by rfl) (hs2 : starEach [f] X.env = [(false, eval f X.env)] := by rfl) : SI X E C tg (.Call (.Name "range" p) [e, f] [] pos) (rg2D d d2) := by
  obtain ⟨te, pe, se⟩ := he
  obtain ⟨tf, pf, sf⟩ := hf
  refine ⟨_, pi_range2 hg hm (pa_cons pe (pa_cons pf pa_nil hs2) (by rw [hs, hs2])) hs hs2, fun G0 H0 G H σ ρ Q I h => ?_⟩
  refine se.use (P := ItOk X.K E C (fun G' _ H2 => Same G' H2) Q) famI I h fun r x G1 H1 e1 g1 I1 k1 h1 => ?_
  refine sf.use (P := ItOk X.K E C (fun G' _ H2 => Same G' H2) Q) famI I1 h1 fun r2 x2 G2 H2 e2 g2 I2 k2 h2 => ?_
  have k := (k1.rp I1.s).up g2.h
  have k' := k2.rp I2.s
  split at h2
  · rename_i a n q q2
    rw [q] at k
    rw [q2] at k'
    cases k
    cases k'
    split at h2
    · rename_i c
      exact ⟨a, n, rfl, ⟨by omega, by omega, by omega, by omega⟩, h2 _ G2 H2 (Grow.refl I2.s) walks_rng⟩
    · exact h2.elim
  · exact h2.elim
/-- enumerate(xs) -/
def enumP (ds : List PD) : List PD := (ds.zipIdx).map fun p => .tuple [.int (p.2 : Nat), p.1]
def enD (e : ED) : LD := fun ρ => (itD e ρ).bind fun ds => .ok (enumP ds)
theorem enumP_get {ds : List PD} {i : Nat} {d : PD} (h : (enumP ds)[i]? = some d) : ∃ x, ds[i]? = some x ∧ d = .tuple [.int (i : Nat), x] := by
  unfold enumP at h
  rw [List.getElem?_map, List.getElem?_zipIdx] at h
  cases e : ds[i]? with
  | none => rw [e] at h; cases h
  | some x => rw [e] at h; simp at h; exact ⟨x, rfl, h.symm⟩
theorem walks_enum {K : PySem.W.Frag} {G : Hp} {a : Addr} {vs : List V} {ds : List PD} {S : Hp → Prop} (hS : ∀ H, S H → SqL K H a vs ∧ Same G H) (r : RpA K G vs ds) : Walks K (Ite K a) G (enumP ds) S := by
  intro i H hs
  obtain ⟨h1, s⟩ := hS H hs
  have hl : (enumP ds).length = ds.length := by simp [enumP]
  refine ⟨fun hi => ⟨vs, h1, by rw [r.length, ← hl]; exact hi⟩, fun d hd => ?_⟩
  obtain ⟨x, hx, rfl⟩ := enumP_get hd
  obtain ⟨v, hv, rv⟩ := r.getD hx
  refine ⟨⟨vs, v, h1, hv⟩, fun v' H' hy => ?_⟩
  obtain ⟨T, y, rfl, hT, rfl, f⟩ := hy
  have e : vs[i]? = some y := f vs h1
  rw [hv] at e
  cases e
  exact fun G' s1 s2 => ⟨_, Grow.newK s2 hT, .tup upd_same (.cons (.int _) (.cons ((rv.up s1).up (same_upd (s2.free hT))) .nil))⟩
theorem si_enum {e : Expr} {d : ED} {p pos tpos : Pos} {elts : List Expr} {kk : Nat} (hg : Gl X "enumerate") (hm : X.mg "enumerate" = none) (he : SE X E C e d) (hs : starEach [e] X.env = [(false, eval e X.env)] := by rfl) : SI X E C (.Tuple elts kk tpos) (.Call (.Name "enumerate" p) [e] [] pos) (enD d) := by
  obtain ⟨te, pe, se⟩ := he
  refine ⟨_, pi_enum hg hm (pa_cons pe pa_nil hs) hs, fun G0 H0 G H σ ρ Q I h => ?_⟩
  have h' : ItOk X.K E C (fun G' _ H2 => Same G' H2) Q G H ((d ρ).bind fun r => (match r.fz with
    | .im (.list ds) => .ok (enumP ds)
    | .im (.dict [(.none, .list ds)]) => .ok (enumP ds)
    | _ => .st : Out (List PD))) := by
    have e2 : enD d ρ = ((d ρ).bind fun r => (match r.fz with
      | .im (.list ds) => .ok (enumP ds)
      | .im (.dict [(.none, .list ds)]) => .ok (enumP ds)
      | _ => .st : Out (List PD))) := by
      unfold enD itD
      cases d ρ with
      | ok r =>
        show Out.bind (match r.fz with
          | .im (.list ds) => .ok ds
          | .im (.dict [(.none, .list ds)]) => .ok ds
          | _ => .st) _ = (match r.fz with
          | .im (.list ds) => .ok (enumP ds)
          | .im (.dict [(.none, .list ds)]) => .ok (enumP ds)
          | _ => .st)
        split <;> rfl
      | ex c => rfl
      | st => rfl
    rw [← e2]
    exact h
  refine se.useF (P := ItOk X.K E C (fun G' _ H2 => Same G' H2) Q) famI I h' fun r x G1 H1 e1 g1 I1 k1 h1 => ?_
  split at h1
  · rename_i ds q
    rw [q] at k1
    cases k1 with
    | lst h2 h3 => exact ⟨_, _, rfl, SqL.of (I1.s _ _ h2), h1 _ G1 H1 (Grow.refl I1.s) (walks_enum (fun H hs => ⟨SqL.of (hs _ _ h2), hs⟩) h3)⟩
  · rename_i ds q
    rw [q] at k1
    cases k1 with
    | scr ns h2 => exact ⟨_, _, rfl, I1.s.seq h2, h1 _ G1 H1 (Grow.refl I1.s) (walks_enum (fun H hs => ⟨hs.seq h2, hs⟩) (rpA_ints ns))⟩
  · exact h1.elim

/-! ### targets -/
abbrev BD := PD → Env → Option Env
inductive Tg where
  | nm (i : Nat)
  | tp (is : List Nat)
def gsOf : List Nat → TGs
  | [] => gNil
  | i :: is => gCons (gName i) (gsOf is)
def tgOf (K : PySem.W.Frag) : Tg → TG
  | .nm i => gName i
  | .tp is => gTup K is.length (gsOf is)
def setAll (ρ : Env) (ps : List (Nat × PD)) : Env := ps.foldl (fun ρ p => ρ.set p.1 (.im p.2)) ρ
def bindT : Tg → BD
  | .nm i, d, ρ => some (ρ.set i (.im d))
  | .tp is, d, ρ => match d with
    | .tuple ds => if ds.length = is.length then some (setAll ρ (is.zip ds)) else none
    | _ => none
def slotsT : Tg → List Nat
  | .nm i => [i]
  | .tp is => is
@[simp] def wipeE (ρ : Env) : List Nat → Env
  | [] => ρ
  | v :: vs => (wipeE ρ vs).set v .no
theorem wipe_set {σ : L2.St} {i : Nat} {o : Option V} : ∀ {vs : List Nat}, i ∈ vs → wipe (σ.set i o) vs = wipe σ vs
  | [], h => nomatch h
  | v :: vs, h => by
    have key : ∀ (vs : List Nat) (σ : L2.St) (o : Option V) (i : Nat), i ∉ vs → wipe (σ.set i o) vs = (wipe σ vs).set i o := by
      intro vs
      induction vs with
      | nil => intro σ o i _; rfl
      | cons u us ih =>
        intro σ o i hn
        simp only [List.mem_cons, not_or] at hn
        show (wipe (σ.set i o) us).set u none = ((wipe σ us).set u none).set i o
        rw [ih σ o i hn.2, List.set_comm]
        exact fun e => hn.1 e
    by_cases hm : i ∈ vs
    · show (wipe (σ.set i o) vs).set v none = (wipe σ vs).set v none
      rw [wipe_set hm]
    · have e : i = v := by
        rcases List.mem_cons.mp h with e | e
        · exact e
        · exact absurd e hm
      subst e
      show (wipe (σ.set i o) vs).set i none = (wipe σ vs).set i none
      rw [key vs σ o i hm, List.set_set]
theorem EnvOk.wipe {K : PySem.W.Frag} {G0 H0 G H : Hp} {σ : L2.St} {ρ : Env} (I : EnvOk K G0 H0 G H σ ρ) : ∀ vs : List Nat, EnvOk K G0 H0 G H (L2.wipe σ vs) (wipeE ρ vs)
  | [] => I
  | v :: vs => (EnvOk.wipe I vs).setNo v
theorem gsOf_ok {K : PySem.W.Frag} {G0 H0 G H : Hp} {Q : L2.St → Hp → Prop} : ∀ (is : List Nat) (σ : L2.St) (ρ : Env) (vs : List V) (ds : List PD), EnvOk K G0 H0 G H σ ρ → RpA K G vs ds → ds.length = is.length →
    (∀ σ', EnvOk K G0 H0 G H σ' (setAll ρ (is.zip ds)) → (∀ us, (∀ i ∈ is, i ∈ us) → wipe σ' us = wipe σ us) → Q σ' H) → gsOf is vs σ H Q
  | [], σ, ρ, vs, ds, I, r, hl, h => by
    cases ds with
    | nil => cases r; exact ⟨rfl, h σ I fun _ _ => rfl⟩
    | cons d ds => simp at hl
  | i :: is, σ, ρ, vs, ds, I, r, hl, h => by
    cases ds with
    | nil => simp at hl
    | cons d ds =>
      cases r with
      | cons h1 h2 =>
        refine ⟨_, _, rfl, gsOf_ok is _ (ρ.set i (.im d)) _ ds (I.setIm i h1) h2 (by simpa using hl) fun σ' I' hw => h σ' I' fun us hu => ?_⟩
        rw [hw us fun j hj => hu j (List.mem_cons_of_mem _ hj)]
        exact wipe_set (hu i List.mem_cons_self)
theorem tgOf_ok {K : PySem.W.Frag} {G0 H0 G H : Hp} {Q : L2.St → Hp → Prop} {σ : L2.St} {ρ : Env} {v : V} {d : PD} (k : Tg) (I : EnvOk K G0 H0 G H σ ρ) (r : Rp K G v d) (h : match bindT k d ρ with
    | some ρ' => ∀ σ', EnvOk K G0 H0 G H σ' ρ' → (∀ us, (∀ i ∈ slotsT k, i ∈ us) → wipe σ' us = wipe σ us) → Q σ' H
    | none => False) : tgOf K k v σ H Q := by
  cases k with
  | nm i => exact h _ (I.setIm i r) fun us hu => wipe_set (hu i List.mem_cons_self)
  | tp is =>
    unfold bindT at h
    cases d with
    | tuple ds =>
      by_cases c : ds.length = is.length
      · simp only [if_pos c] at h
        cases r with
        | tup h1 h2 => exact ⟨_, _, rfl, SqT.of (I.s _ _ h1), by rw [h2.length]; exact c, gsOf_ok is σ ρ _ _ I h2 c h⟩
      · simp only [if_neg c] at h
    | _ => exact h.elim
structure SG (X : Cx) (tg : Expr) (k : Tg) : Prop where
  p : PG X tg (tgOf X.K k)
theorem sg_name {x : Str} {pos : Pos} (i : Nat) (hN : X.N.Nodup) (hx : Loc X.env.scope x) (hi : X.N[i]? = some x := by rfl) (hf : X.fn x = true ∨ X.env.scope.names.lookup x = some .local := by first | exact .inl rfl | exact .inr rfl | assumption) : SG X (.Name x pos) (.nm i) :=
  ⟨pg_name hN hi hx hf⟩
structure SGs (X : Cx) (ts : List Expr) (is : List Nat) : Prop where
  p : PGs X ts (gsOf is)
theorem sgs_nil : SGs X [] [] := ⟨pgs_nil⟩
theorem sgs_cons {x : Str} {pos : Pos} {ts : List Expr} {is : List Nat} (i : Nat) (hN : X.N.Nodup) (hx : Loc X.env.scope x) (hr : SGs X ts is) (hi : X.N[i]? = some x := by rfl) (hf : X.fn x = true ∨ X.env.scope.names.lookup x = some .local := by first | exact .inl rfl | exact .inr rfl | assumption) : SGs X (.Name x pos :: ts) (i :: is) :=
  ⟨pgs_cons (pg_name hN hi hx hf) hr.p⟩
theorem sg_tup {ts : List Expr} {k : Nat} {pos : Pos} {is : List Nat} (hc : X.calm = true) (hr : SGs X ts is) (hn : (assignEach ts X.env).length = is.length := by rfl) (hst : (assignEach ts X.env).findIdx? (·.1) = none := by rfl) : SG X (.Tuple ts k pos) (.tp is) :=
  ⟨pg_tup hc hr.p hn hst⟩

/-! ### for -/
def forL (b : Tg) (body : SD) : List PD → Env → SO
  | [], ρ => .nx ρ
  | d :: ds, ρ => match bindT b d ρ with
    | none => .st
    | some ρ1 => match body ρ1 with
      | .nx ρ' => forL b body ds ρ'
      | .ct ρ' => forL b body ds ρ'
      | .bk ρ' => .nx ρ'
      | .rt r => .rt r
      | .rv r ρ' => .rv r ρ'
      | .ev c ρ' => .ev c ρ'
      | .ex c => .ex c
      | .st => .st
def forD (s : LD) (b : Tg) (body : SD) : SD := fun ρ => match s ρ with
  | .ok ds => forL b body ds ρ
  | .ex c => .ex c
  | .st => .st
theorem ss_for {tg iter : Expr} {body : List Stmt} {s : LD} {b : Tg} {d : SD} {pos : Pos} (hp : PassesOwn (model X.prog X.w) X.A X.env X.xe) (hc : X.calm = true) (hi : SI X E C tg iter s) (hg : SG X tg b) (hb : SB X E C body d)
    (hs : ∀ x, foldedSetIterable iter X.env x = pure x := by intro _; rfl) : SS X E C (.For tg iter body [] pos) (forD s b d) := by
  obtain ⟨wi, pw, sw⟩ := hi
  obtain ⟨pg⟩ := hg
  obtain ⟨tb, pb, sb⟩ := hb
  refine ⟨_, ps_for hp hc pw pg pb hs, fun G0 H0 G H σ ρ D I h => ?_⟩
  refine sw G0 H0 G H σ ρ _ I ?_
  unfold forD at h
  cases e : s ρ with
  | st => rw [e] at h; exact h
  | ex c => rw [e] at h; exact fun G' H' g => h G' H' (I.b.trans g)
  | ok ds =>
    rw [e] at h
    intro J G1 H1 g1 wk
    refine ⟨fun i m σ' H' => ∃ G' ρ', EnvOk X.K G0 H0 G' H' σ' ρ' ∧ Same G1 G' ∧ m = ds.length - i ∧ i ≤ ds.length ∧ SOk X.K E C G0 H0 G' D (forL b d (ds.drop i) ρ'), ⟨ds.length, G1, ρ, I.grow g1, Same.refl _, rfl, Nat.zero_le _, SOk.up h g1.g⟩, ?_⟩
    rintro i m σ' H' ⟨G', ρ', I', s', rfl, hi, h'⟩
    by_cases hlt : i < ds.length
    · have hd : ds[i]? = some ds[i] := List.getElem?_eq_getElem hlt
      obtain ⟨go, yl⟩ := (wk i H' (s'.trans I'.s)).2 _ hd
      refine .inr ⟨go, fun σ2 H2 => ∃ G2 ρ2, EnvOk X.K G0 H0 G2 H2 σ2 ρ2 ∧ Same G1 G2 ∧ SOk X.K E C G0 H0 G2 D (forL b d (ds.drop (i + 1)) ρ2), fun σ2 H2 ⟨G2, ρ2, a1, a2, a3⟩ => ⟨ds.length - (i + 1), by omega, G2, ρ2, a1, a2, rfl, hlt, a3⟩, fun v H2 hy => ?_⟩
      obtain ⟨G2, g2, rv⟩ := yl v H2 hy G' s' I'.s
      have I2 := I'.grow g2
      refine tgOf_ok b I2 rv ?_
      rw [List.drop_eq_getElem_cons hlt] at h'
      unfold forL at h'
      cases eb : bindT b ds[i] ρ' with
      | none => simp only [eb] at h'; exact h'
      | some ρ1 =>
        simp only [eb] at h'
        intro σ3 I3 _
        refine sb G0 H0 G2 H2 σ3 ρ1 _ I3 ?_
        cases ed : d ρ1 with
        | nx ρ4 => simp only [ed] at h'; exact fun σ4 G4 H4 s4 I4 => ⟨G4, ρ4, I4, (s'.trans g2.g).trans s4, SOk.up h' (g2.g.trans s4)⟩
        | ct ρ4 => simp only [ed] at h'; exact fun σ4 G4 H4 s4 I4 => ⟨G4, ρ4, I4, (s'.trans g2.g).trans s4, SOk.up h' (g2.g.trans s4)⟩
        | bk ρ4 => simp only [ed] at h'; exact fun σ4 G4 H4 s4 I4 => h' σ4 G4 H4 (g2.g.trans s4) I4
        | rt r => simp only [ed] at h'; exact h'
        | rv r ρ4 => simp only [ed] at h'; exact fun v σ4 G4 H4 s4 I4 r4 => h' v σ4 G4 H4 (g2.g.trans s4) I4 r4
        | ev r ρ4 => simp only [ed] at h'; exact fun σ4 G4 H4 s4 I4 => h' σ4 G4 H4 (g2.g.trans s4) I4
        | ex r => simp only [ed] at h'; exact h'
        | st => simp only [ed] at h'; exact h'
    · have e2 : i = ds.length := by omega
      refine .inl ⟨(wk i H' (s'.trans I'.s)).1 (by omega), ?_⟩
      rw [e2, List.drop_length] at h'
      exact h' σ' G' H' (Same.refl _) I'

/-! ### while, by a number of turns that is enough -/
def whileN (t : TD) (body : SD) : Nat → Env → SO
  | 0, _ => .st
  | n + 1, ρ => match t ρ with
    | .ok true => match body ρ with
      | .nx ρ' => whileN t body n ρ'
      | .ct ρ' => whileN t body n ρ'
      | .bk ρ' => .nx ρ'
      | .rt r => .rt r
      | .rv r ρ' => .rv r ρ'
      | .ev c ρ' => .ev c ρ'
      | .ex c => .ex c
      | .st => .st
    | .ok false => .nx ρ
    | .ex c => .ex c
    | .st => .st
theorem ss_while {c : Expr} {body : List Stmt} {t : TD} {d : SD} {pos : Pos} (n : Nat) (hp : PassesOwn (model X.prog X.w) X.A X.env X.xe) (hc : ST X E C c t) (hb : SB X E C body d) : SS X E C (.While c body [] pos) (whileN t d n) := by
  obtain ⟨tc, pc, sc⟩ := hc
  obtain ⟨tb, pb, sb⟩ := hb
  refine ⟨_, ps_while hp pc pb, fun G0 H0 G H σ ρ D I h => ?_⟩
  refine ⟨fun m σ' H' => ∃ G' ρ', EnvOk X.K G0 H0 G' H' σ' ρ' ∧ SOk X.K E C G0 H0 G D (whileN t d m ρ') ∧ Same G G', ⟨n, G, ρ, I, h, Same.refl _⟩, ?_⟩
  rintro m σ' H' ⟨G', ρ', I', h', s'⟩
  cases m with
  | zero => exact h'.elim
  | succ m =>
    unfold whileN at h'
    refine sc G0 H0 G' H' σ' ρ' _ I' ?_
    cases e : t ρ' with
    | st => rw [e] at h'; exact h'
    | ex c => rw [e] at h'; exact fun G2 H2 g => h' G2 H2 (I'.b.trans g)
    | ok b =>
      rw [e] at h'
      intro G2 H2 g2
      have I2 := I'.grow g2
      have s2 := s'.trans g2.g
      cases b with
      | false => exact h' σ' G2 H2 s2 I2
      | true =>
        refine ⟨fun σ3 H3 => ∃ G3 ρ3, EnvOk X.K G0 H0 G3 H3 σ3 ρ3 ∧ SOk X.K E C G0 H0 G D (whileN t d m ρ3) ∧ Same G G3, fun σ3 H3 q => ⟨m, Nat.lt_succ_self m, q⟩, ?_⟩
        refine sb G0 H0 G2 H2 σ' ρ' _ I2 ?_
        cases ed : d ρ' with
        | nx ρ4 => simp only [ed] at h'; exact fun σ4 G4 H4 s4 I4 => ⟨G4, ρ4, I4, h', s2.trans s4⟩
        | ct ρ4 => simp only [ed] at h'; exact fun σ4 G4 H4 s4 I4 => ⟨G4, ρ4, I4, h', s2.trans s4⟩
        | bk ρ4 => simp only [ed] at h'; exact fun σ4 G4 H4 s4 I4 => h' σ4 G4 H4 (s2.trans s4) I4
        | rt r => simp only [ed] at h'; exact h'
        | rv r ρ4 => simp only [ed] at h'; exact fun v σ4 G4 H4 s4 I4 r4 => h' v σ4 G4 H4 (s2.trans s4) I4 r4
        | ev r ρ4 => simp only [ed] at h'; exact fun σ4 G4 H4 s4 I4 => h' σ4 G4 H4 (s2.trans s4) I4
        | ex r => simp only [ed] at h'; exact h'
        | st => simp only [ed] at h'; exact h'
end
end Z

/-! ## Z8 -/
set_option Elab.async false
set_option linter.all false
set_option maxRecDepth 100000
set_option maxHeartbeats 2000000
namespace Z
open PySem PySem.Spec PyProof.Rows L2

def noX {α : Type} : Out α → Out α
  | .ex _ => .st
  | o => o
/-- an element, its test: each turn begins with the entries ahead, the block's own names forgotten -/
def lcL (k : Tg) (t : TD) (e : ED) (ρ : Env) : List PD → Out (List PD)
  | [] => .ok []
  | d :: ds => match bindT k d ρ with
    | none => .st
    | some ρ1 => (noX (t ρ1)).bind fun c => if c = true then (noX (e ρ1)).bind fun r => match r.fz with
        | .im y => (lcL k t e ρ ds).bind fun ys => .ok (y :: ys)
        | _ => .st
      else lcL k t e ρ ds
def lcD (s : LD) (vs : List Nat) (k : Tg) (t : TD) (e : ED) : ED := fun ρ => (s ρ).bind fun ds => (lcL k t e (wipeE ρ vs) ds).bind fun ys => if ys.length ≤ 100000 then .ok (.fr 0 ys) else .st
def yesT : TD := fun _ => .ok true
/-- the heap without one place -/
def hide (H : Hp) (D : Addr) : Hp := fun b => if b = D then none else H b
theorem hide_ne {H : Hp} {D b : Addr} (h : b ≠ D) : hide H D b = H b := if_neg h
theorem hide_same {H : Hp} {D : Addr} : hide H D D = none := if_pos rfl
theorem same_hide {H : Hp} {D : Addr} : Same (hide H D) H := fun b o e => by
  by_cases h : b = D
  · subst h; rw [hide_same] at e; cases e
  · rw [hide_ne h] at e; exact e
theorem same_to_hide {G H : Hp} {D : Addr} (s : Same G H) (n : G D = none) : Same G (hide H D) := fun b o e => by
  have h : b ≠ D := fun q => by subst q; rw [n] at e; cases e
  rw [hide_ne h]
  exact s _ _ e
theorem hide_upd {H : Hp} {D : Addr} {o : HO} : hide (upd H D o) D = hide H D := by
  funext b
  by_cases h : b = D
  · subst h; rw [hide_same, hide_same]
  · rw [hide_ne h, hide_ne h, upd_ne h]
/-- from the heap without the place to the heap -/
theorem Grow.unhide {G H : Hp} {D : Addr} (s : Same G (hide H D)) : Grow G (hide H D) G H := ⟨Same.refl _, same_hide, s.trans same_hide, fun _ _ _ _ h => h⟩
/-- behind what grew the heap -/
theorem Grow.rehide {G0 H0 G H G' H' : Hp} {D : Addr} {o : HO} (a : Grow G0 H0 G (hide H D)) (b : Grow G H G' H') (n0 : H0 D = none) (hD : H D = some o) (m : Mut (some o)) (nG : G D = none) : Grow G0 H0 G' (hide H' D) ∧ G' D = none := by
  have nG' : G' D = none := b.m D o hD m nG
  refine ⟨⟨a.g.trans b.g, fun x u e => ?_, same_to_hide b.s nG', fun x u h1 h2 h3 => ?_⟩, nG'⟩
  · have h : x ≠ D := fun q => by subst q; rw [n0] at e; cases e
    have e1 := a.h _ _ e
    rw [hide_ne h] at e1 ⊢
    exact b.h _ _ e1
  · have e1 := a.h _ _ h1
    exact b.m x u (same_hide _ _ e1) h2 (a.m x u h1 h2 h3)
structure STs (X : Cx) (E : XK) (C : CM) (ifs : List Expr) (t : TD) : Prop where
  p : ∃ tt, PTs X ifs tt ∧ SimT X.K E C tt t
section
variable {X : Cx} {E : XK} {C : CM}
theorem sts_nil : STs X E C [] yesT := ⟨_, pts_nil, fun G0 H0 G H σ ρ Q I h => h G H (Grow.refl I.s)⟩
theorem sts_one {c : Expr} {t : TD} (h : ST X E C c t) : STs X E C [c] t := by
  obtain ⟨tt, p, s⟩ := h
  exact ⟨_, pts_one p, s⟩
/-- the contexts of a block -/
structure Bk where
  s : Shared
  H : Hp
  C : Addr
  cl : List (Str × Addr)
  fp : List Addr
abbrev Bk.x (X : Cx) (scope : Scope) (b : Bk) : Cx := X.blk b.s b.H scope (compEnvC scope b.cl b.C X.env) b.fp
theorem blk_e {scope : Scope} {e : Expr} {d : ED} (h : ∀ b : Bk, SE (b.x X scope) E C e d) : ∃ te, (∀ b : Bk, PE (b.x X scope) e te) ∧ SimE X.K E C te d := by
  let te : Bk → TE := fun b => (h b).p.choose
  have h1 : ∀ b, PE (b.x X scope) e (te b) := fun b => (h b).p.choose_spec.1
  have h2 : ∀ b, SimE X.K E C (te b) d := fun b => (h b).p.choose_spec.2
  refine ⟨fun σ H Q => ∀ b, te b σ H Q, fun b => ⟨fun pins s σ H Q I q => (h1 b).run pins s σ H Q I (q b)⟩, fun G0 H0 G H σ ρ Q I q b => h2 b G0 H0 G H σ ρ Q I q⟩
theorem blk_t {scope : Scope} {e : List Expr} {d : TD} (h : ∀ b : Bk, STs (b.x X scope) E C e d) : ∃ te, (∀ b : Bk, PTs (b.x X scope) e te) ∧ SimT X.K E C te d := by
  let te : Bk → TT := fun b => (h b).p.choose
  have h1 : ∀ b, PTs (b.x X scope) e (te b) := fun b => (h b).p.choose_spec.1
  have h2 : ∀ b, SimT X.K E C (te b) d := fun b => (h b).p.choose_spec.2
  refine ⟨fun σ H Q => ∀ b, te b σ H Q, fun b => ⟨fun pins s σ H Q I q => (h1 b).run pins s σ H Q I (q b)⟩, fun G0 H0 G H σ ρ Q I q b => h2 b G0 H0 G H σ ρ Q I q⟩
theorem sim_noX {K : PySem.W.Frag} {te : TE} {d : ED} (h : SimE K E0 C te d) : SimE K E C te fun ρ => noX (d ρ) := by
  intro G0 H0 G H σ ρ Q I q
  refine h G0 H0 G H σ ρ Q I ?_
  cases e : d ρ with
  | ok r => simp only [e, noX] at q; exact q
  | ex c => simp only [e, noX] at q; exact q.elim
  | st => simp only [e, noX] at q; exact q
theorem sim_noT {K : PySem.W.Frag} {te : TT} {d : TD} (h : SimT K E0 C te d) : SimT K E C te fun ρ => noX (d ρ) := by
  intro G0 H0 G H σ ρ Q I q
  refine h G0 H0 G H σ ρ Q I ?_
  cases e : d ρ with
  | ok r => simp only [e, noX] at q; exact q
  | ex c => simp only [e, noX] at q; exact q.elim
  | st => simp only [e, noX] at q; exact q
theorem fresh_acc {K : PySem.W.Frag} {H0 G H : Hp} {vs : List V} {ds : List PD} {p : Addr} (h : RpA K G vs ds) (hp : H p = some (.lst vs)) (n0 : H0 p = none) (nG : G p = none) : ROk K H0 G H (.fr 0 ds) (.ref p) := by
  have hl := h.length
  refine ⟨((p, vs.zip ds) : Addr × List (V × PD)), ?_, rfl, ⟨?_, ?_⟩, ?_, ?_⟩
  · show (vs.zip ds).map (fun x => x.2) = ds
    rw [List.map_snd_zip (by omega)]
  · show H p = some (.lst ((vs.zip ds).map (fun x => x.1)))
    rw [hp, List.map_fst_zip (by omega)]
  · have key : ∀ y ∈ (vs.zip ds : List (V × PD)), Rp K G y.1 y.2 := by
      intro y hy
      obtain ⟨i, hi⟩ := List.mem_iff_getElem?.mp hy
      rw [List.getElem?_zip_eq_some] at hi
      obtain ⟨d, e1, e2⟩ := h.get hi.1
      rw [hi.2] at e1
      cases e1
      exact e2
    exact key
  · have key : ∀ l : List (V × PD), l.Pairwise fun y z => ∀ a ∈ ATy.adr 0 y, a ∉ ATy.adr 0 z := fun l => List.pairwise_of_forall (fun _ _ a ha => nomatch ha)
    exact ⟨fun y _ => ⟨trivial, fun h => nomatch h⟩, key _⟩
  · intro a ha
    have e : a = p := by
      have : a ∈ (p :: (vs.zip ds).flatMap (fun _ => ([] : List Addr))) := ha
      simpa using this
    subst e
    exact ⟨n0, nG⟩
theorem RpA.snoc {K : PySem.W.Frag} {G : Hp} {vs : List V} {ds : List PD} {v : V} {d : PD} (h : RpA K G vs ds) (r : Rp K G v d) : RpA K G (vs ++ [v]) (ds ++ [d]) := h.append (.cons r .nil)
/-- the reading of a comprehension's loop -/
theorem sim_lc {K : PySem.W.Frag} {wi : TI} {s : LD} {k : Tg} {tt : TT} {t : TD} {te : TE} {e : ED} {vs : List Nat} (hv : ∀ i ∈ slotsT k, i ∈ vs)
    (sw : ∀ G0 H0 G H σ ρ (Q : It → Hp → Prop), EnvOk K G0 H0 G H σ ρ → (match s ρ with
      | .ok ds => ∀ J G' H', Grow G H G' H' → Walks K J G' ds (fun H2 => Same H' H2) → Q J H'
      | .ex c => ∀ G' H', Grow G H G' H' → E (C c) none H'
      | .st => False) → wi σ H Q)
    (st : SimT K E0 C tt t) (se : SimE K E0 C te e) : SimE K E C (tLc wi (tgOf K k) tt te vs) (lcD s vs k t e) := by
  intro G0 H0 G H σ ρ Q I h
  unfold lcD at h
  refine sw G0 H0 G H σ ρ _ I ?_
  cases es : s ρ with
  | st => rw [es] at h; exact h
  | ex c => rw [es] at h; exact h
  | ok ds =>
    rw [es] at h
    intro J G1 H1 g1 wk D hD
    have I1 := I.grow g1
    -- what is left to make
    have h' : ∀ ys, lcL k t e (wipeE ρ vs) ds = .ok ys → ys.length ≤ 100000 ∧ OOk K E C G H Q (.ok (.fr 0 ys)) := by
      intro ys ey
      have q : OOk K E C G H Q ((lcL k t e (wipeE ρ vs) ds).bind fun ys => if ys.length ≤ 100000 then .ok (.fr 0 ys) else .st) := h
      rw [ey] at q
      by_cases c : ys.length ≤ 100000
      · exact ⟨c, by have q' : OOk K E C G H Q (if ys.length ≤ 100000 then .ok (.fr 0 ys) else .st) := q; rw [if_pos c] at q'; exact q'⟩
      · have q' : OOk K E C G H Q (if ys.length ≤ 100000 then .ok (.fr 0 ys) else .st) := q
        rw [if_neg c] at q'
        exact q'.elim
    have hok : ∃ ys, lcL k t e (wipeE ρ vs) ds = .ok ys := by
      have q : OOk K E C G H Q ((lcL k t e (wipeE ρ vs) ds).bind fun ys => if ys.length ≤ 100000 then .ok (.fr 0 ys) else .st) := h
      cases ey : lcL k t e (wipeE ρ vs) ds with
      | ok ys => exact ⟨ys, rfl⟩
      | ex c =>
        exfalso
        have key : ∀ (ds : List PD) c, lcL k t e (wipeE ρ vs) ds ≠ .ex c := by
          intro ds
          induction ds with
          | nil => intro c q; cases q
          | cons d ds ih =>
            intro c q
            unfold lcL at q
            cases eb : bindT k d (wipeE ρ vs) with
            | none => simp only [eb] at q; cases q
            | some ρ1 =>
              simp only [eb] at q
              cases et : t ρ1 with
              | ex c => simp [et, noX, Out.bind] at q
              | st => simp [et, noX, Out.bind] at q
              | ok b =>
                simp only [et, noX, Out.bind] at q
                cases b with
                | false => exact ih c q
                | true =>
                  simp only [if_true] at q
                  cases ee : e ρ1 with
                  | ex c => simp [ee] at q
                  | st => simp [ee] at q
                  | ok r =>
                    simp only [ee] at q
                    cases er : r.fz with
                    | im y =>
                      simp only [er] at q
                      cases el : lcL k t e (wipeE ρ vs) ds with
                      | ok ys => simp [el] at q
                      | ex c' => exact ih c' el
                      | st => simp [el] at q
                    | ro n u => simp only [er, reduceCtorEq] at q
                    | fr n u => simp only [er, reduceCtorEq] at q
        exact key ds c ey
      | st => rw [ey] at q; exact q.elim
    obtain ⟨ys, ey⟩ := hok
    obtain ⟨hlen, hfin⟩ := h' ys ey
    have s1 : Same H1 (hide (upd H1 D (.lst [])) D) := by rw [hide_upd]; exact same_to_hide (Same.refl _) hD
    have gs : Grow G1 H1 G1 (hide (upd H1 D (.lst [])) D) := ⟨Same.refl _, s1, I1.s.trans s1, fun _ _ _ _ h => h⟩
    refine ⟨fun i m H2 => ∃ G2 acc out rest, Grow G1 H1 G2 (hide H2 D) ∧ G2 D = none ∧ H2 D = some (.lst acc) ∧ RpA K G2 acc out ∧ m = ds.length - i ∧ i ≤ ds.length ∧ lcL k t e (wipeE ρ vs) (ds.drop i) = .ok rest ∧ ys = out ++ rest,
      ⟨ds.length, G1, [], [], ys, gs, I1.s.free hD, upd_same, .nil, rfl, Nat.zero_le _, ey, rfl⟩, ?_⟩
    rintro i m H2 ⟨G2, acc, out, rest, g2, nG, hacc, rv, rfl, hi, hr, hy⟩
    have gu : Grow G2 (hide H2 D) G2 H2 := Grow.unhide g2.s
    have g12 : Grow G1 H1 G2 H2 := g2.trans gu
    have I2 := I1.grow g12
    by_cases hlt : i < ds.length
    · have hd : ds[i]? = some ds[i] := List.getElem?_eq_getElem hlt
      obtain ⟨go, yl⟩ := (wk i H2 g12.h).2 _ hd
      refine .inr ⟨go, fun H3 => ∃ G3 acc out rest, Grow G1 H1 G3 (hide H3 D) ∧ G3 D = none ∧ H3 D = some (.lst acc) ∧ RpA K G3 acc out ∧ lcL k t e (wipeE ρ vs) (ds.drop (i + 1)) = .ok rest ∧ ys = out ++ rest, fun H3 ⟨G3, acc, out, rest, a1, a2, a3, a4, a5, a6⟩ => ⟨ds.length - (i + 1), by omega, G3, acc, out, rest, a1, a2, a3, a4, rfl, hlt, a5, a6⟩, fun v H3 hyl => ?_⟩
      obtain ⟨G3, g3, rd⟩ := yl v H3 hyl G2 g12.g I2.s
      have I3 := I2.grow g3
      refine tgOf_ok k (I3.wipe vs) rd ?_
      rw [List.drop_eq_getElem_cons hlt] at hr
      unfold lcL at hr
      cases eb : bindT k ds[i] (wipeE ρ vs) with
      | none => simp only [eb] at hr; cases hr
      | some ρ1 =>
        simp only [eb] at hr
        intro σ3 I4 hw
        refine ⟨?_, ?_⟩
        · have key : ∀ (us : List Nat) (σ : L2.St), wipe (wipe σ us) us = wipe σ us := by
            intro us
            induction us with
            | nil => intro σ; rfl
            | cons u us ih =>
              intro σ
              show (wipe ((wipe σ us).set u none) us).set u none = (wipe σ us).set u none
              by_cases hm : u ∈ us
              · rw [wipe_set hm, ih]
              · have key2 : ∀ (vs : List Nat) (σ : L2.St) (o : Option V) (i : Nat), i ∉ vs → wipe (σ.set i o) vs = (wipe σ vs).set i o := by
                  intro vs
                  induction vs with
                  | nil => intro σ o i _; rfl
                  | cons u us ih =>
                    intro σ o i hn
                    simp only [List.mem_cons, not_or] at hn
                    show (wipe (σ.set i o) us).set u none = ((wipe σ us).set u none).set i o
                    rw [ih σ o i hn.2, List.set_comm]
                    exact fun e => hn.1 e
                rw [key2 us _ none u hm, ih, List.set_set]
          rw [hw vs hv, key]
        · refine st G0 H0 G3 H3 σ3 ρ1 _ I4 ?_
          cases et : t ρ1 with
          | ex c => simp [et, noX, Out.bind] at hr
          | st => simp [et, noX, Out.bind] at hr
          | ok b =>
            simp only [et, noX, Out.bind] at hr
            intro G4 H4 g4
            have I5 := I4.grow g4
            have g24 := g3.trans g4
            cases b with
            | false =>
              obtain ⟨r1, r2⟩ := g2.rehide g24 hD hacc trivial nG
              exact ⟨G4, acc, out, rest, r1, r2, g24.h _ _ hacc, rv.up g24.g, hr, hy⟩
            | true =>
              simp only [if_true] at hr
              refine se G0 H0 G4 H4 σ3 ρ1 _ I5 ?_
              cases ee : e ρ1 with
              | ex c => simp [ee] at hr
              | st => simp [ee] at hr
              | ok r =>
                simp only [ee] at hr
                -- the element, known
                have fin : ∀ (y : PD) (v : V) G5 H5, r.fz = .im y → Grow G4 H4 G5 H5 → Rp K G5 v y → ∃ acc, H5 D = some (.lst acc) ∧ acc.length < sizeLine ∧ ∃ G3 acc' out rest, Grow G1 H1 G3 (hide (upd H5 D (.lst (acc ++ [v]))) D) ∧ G3 D = none ∧ (upd H5 D (.lst (acc ++ [v]))) D = some (.lst acc') ∧ RpA K G3 acc' out ∧ lcL k t e (wipeE ρ vs) (ds.drop (i + 1)) = .ok rest ∧ ys = out ++ rest := by
                  intro y v G5 H5 er g5 ry
                  simp only [er] at hr
                  have g25 := g24.trans g5
                  obtain ⟨r1, r2⟩ := g2.rehide g25 hD hacc trivial nG
                  cases el : lcL k t e (wipeE ρ vs) (ds.drop (i + 1)) with
                  | ex c => simp [el] at hr
                  | st => simp [el] at hr
                  | ok rest' =>
                    simp only [el] at hr
                    have er2 : y :: rest' = rest := by injection hr
                    have hl := rv.length
                    have hl2 : out.length ≤ ys.length := by rw [hy]; simp
                    refine ⟨acc, g25.h _ _ hacc, lt_line (by omega), G5, acc ++ [v], out ++ [y], rest', by rw [hide_upd]; exact r1, r2, upd_same, (rv.up g25.g).snoc ry, rfl, by rw [hy, ← er2]; simp⟩
                intro v G5 H5 g5 hr5
                cases r with
                | im y => exact fin y v G5 H5 rfl g5 hr5
                | ro n u => simp [R.fz] at hr
                | fr n u =>
                  obtain ⟨G6, s6, g6, r6⟩ := hr5.freeze g5.s g5
                  exact fin _ v G6 H5 rfl g6 r6
    · have e2 : i = ds.length := by omega
      refine .inl ⟨(wk i H2 g12.h).1 (by omega), ?_⟩
      rw [e2, List.drop_length] at hr
      have e3 : rest = [] := by cases hr; rfl
      subst e3
      rw [List.append_nil] at hy
      subst hy
      exact hfin _ G2 H2 (g1.trans g12) (fresh_acc rv hacc (g1.h.free hD) nG)
theorem se_lc {elt tg iter : Expr} {ifs : List Expr} {scope : Scope} {own : List (Str × Nat)} {pos : Pos} {s : LD} {k : Tg} {t : TD} {e : ED} (hc : X.calm = true) (hN : X.N.Nodup) (hi : SJ X E C tg iter s) (ok : BlkOk X.N X.env.scope scope own) (hv : ∀ i ∈ slotsT k, i ∈ own.map (·.2))
    (hg : ∀ b : Bk, SG (b.x X scope) tg k) (ht : ∀ b : Bk, STs (b.x X scope) E0 C ifs t) (he : ∀ b : Bk, SE (b.x X scope) E0 C elt e) (hs : ∀ x, foldedSetIterable iter X.env x = pure x := by intro _; rfl) :
    SE X E C (.ListComp elt [⟨tg, iter, ifs, 0⟩] scope pos) (lcD s (own.map (·.2)) k t e) := by
  obtain ⟨wi, pw, sw⟩ := hi
  obtain ⟨te, pe, se⟩ := blk_e he
  obtain ⟨tt, pt, st⟩ := blk_t ht
  exact ⟨_, pe_lc hc hN pw ok (fun s H C cl fp => (hg ⟨s, H, C, cl, fp⟩).p) (fun s H C cl fp => pt ⟨s, H, C, cl, fp⟩) (fun s H C cl fp => pe ⟨s, H, C, cl, fp⟩) hs, sim_lc hv sw st se⟩
/-- y = [..], y a local, on one line -/
theorem ss_asgLc {y : Str} {py : Pos} {elt tg iter : Expr} {ifs : List Expr} {scope : Scope} {own : List (Str × Nat)} {pos spos : Pos} {s : LD} {k : Tg} {t : TD} {e : ED} (i : Nat) (hc : X.calm = true) (hN : X.N.Nodup) (hyl : X.env.scope.names.lookup y = some .local)
    (hsw : swapsWith (.ListComp elt [⟨tg, iter, ifs, 0⟩] scope pos) (some (.Name y py)) spos.line X.env = pure true) (hi : SJ X E C tg iter s) (ok : BlkOk X.N X.env.scope scope own) (hv : ∀ i ∈ slotsT k, i ∈ own.map (·.2))
    (hg : ∀ b : Bk, SG (b.x X scope) tg k) (ht : ∀ b : Bk, STs (b.x X scope) E0 C ifs t) (he : ∀ b : Bk, SE (b.x X scope) E0 C elt e) (hy : X.N[i]? = some y := by rfl) (hs : ∀ x, foldedSetIterable iter X.env x = pure x := by intro _; rfl) :
    SS X E C (.Assign [.Name y py] (.ListComp elt [⟨tg, iter, ifs, 0⟩] scope pos) spos) (asgD i (lcD s (own.map (·.2)) k t e)) := by
  obtain ⟨wi, pw, sw⟩ := hi
  obtain ⟨te, pe, se⟩ := blk_e he
  obtain ⟨tt, pt, st⟩ := blk_t ht
  exact ⟨_, ps_setLc hc hN hy hyl hsw pw ok (fun s H C cl fp => (hg ⟨s, H, C, cl, fp⟩).p) (fun s H C cl fp => pt ⟨s, H, C, cl, fp⟩) (fun s H C cl fp => pe ⟨s, H, C, cl, fp⟩) hs, sim_asg i (sim_lc hv sw st se)⟩
end
end Z

/-! ## Z9 -/
set_option Elab.async false
set_option linter.all false
set_option maxRecDepth 100000
set_option maxHeartbeats 2000000
namespace Z
open PySem PySem.Spec PyProof.Rows L2

/-! ### owned lists change -/
/-- the entries, and places that nobody of them owns -/
structure EnvR (K : PySem.W.Frag) (G0 H0 G H : Hp) (σ : L2.St) (ρ : Env) (F : List Addr) : Prop where
  len : σ.length = ρ.length
  b : Grow G0 H0 G H
  e : ∃ w : Addr → Option Nat, (∀ (i : Nat) (e : Ent), ρ[i]? = some e → EntOk K H0 G H w i e (σ.getD i none)) ∧ ∀ a ∈ F, w a = none ∧ G a = none ∧ H0 a = none
section
variable {K : PySem.W.Frag} {G0 H0 G H G' H' : Hp} {σ : L2.St} {ρ : Env} {F : List Addr}
theorem EnvOk.r (I : EnvOk K G0 H0 G H σ ρ) : EnvR K G0 H0 G H σ ρ [] := by
  obtain ⟨l, b, w, e⟩ := I
  exact ⟨l, b, w, e, fun _ h => nomatch h⟩
theorem EnvR.ok (I : EnvR K G0 H0 G H σ ρ F) : EnvOk K G0 H0 G H σ ρ := by
  obtain ⟨l, b, w, e, _⟩ := I
  exact ⟨l, b, w, e⟩
theorem EntOk.relabel {w w' : Addr → Option Nat} {i : Nat} {e : Ent} {o : Option V} (h : EntOk K H0 G H w i e o) (k : ∀ a, w a = some i → w' a = some i) : EntOk K H0 G H w' i e o := by
  cases e with
  | no => trivial
  | im d => exact h
  | ow n t =>
    obtain ⟨x, e1, e2, e3, e4, e5⟩ := h
    exact ⟨x, e1, e2, e3, e4, fun a ha => ⟨k a (e5 a ha).1, (e5 a ha).2⟩⟩
  | vv v => exact h
  | ob a C fs =>
    obtain ⟨z1, z2, z3⟩ := h
    exact ⟨z1, k a z2, z3⟩
/-- what is new since an earlier heap belongs to no entry -/
theorem EnvOk.fresh (I : EnvOk K G0 H0 G H σ ρ) (g : Grow G H G' H') (hF : ∀ a ∈ F, H a = none ∧ G' a = none) : EnvR K G0 H0 G' H' σ ρ F := by
  obtain ⟨len, b, w0, hw0⟩ := I
  refine ⟨len, b.trans g, fun a => if a ∈ F then none else w0 a, fun j e he => ?_, fun a ha => ⟨if_pos ha, (hF a ha).2, b.h.free (hF a ha).1⟩⟩
  have h := hw0 j e he
  have h' := h.grow g
  cases e with
  | no => trivial
  | im d => exact h'
  | vv v => exact h'
  | ob a C fs =>
    obtain ⟨z1, z2, z3, dx, vs, z4, z5⟩ := h'
    obtain ⟨_, _, _, _, _, y4, _⟩ := h
    refine ⟨z1, ?_, z3, dx, vs, z4, z5⟩
    show (if a ∈ F then none else w0 a) = some j
    rw [if_neg]
    · exact z2
    · intro q
      rw [(hF a q).1] at y4
      cases y4
  | ow m u =>
    obtain ⟨y, y1, y2, y3, y4, y5⟩ := h
    refine ⟨y, y1, y2, ATy.ok_mono g.g g.h _ _ y3, y4, fun a ha => ⟨?_, g.m a _ (ATy.in_heap _ _ y3 a ha).choose_spec trivial (y5 a ha).2.1, (y5 a ha).2.2⟩⟩
    show (if a ∈ F then none else w0 a) = some j
    rw [if_neg]
    · exact (y5 a ha).1
    · intro q
      obtain ⟨xs, hx⟩ := ATy.in_heap _ _ y3 a ha
      rw [(hF a q).1] at hx
      cases hx
/-- an entry is given up: its lists are nobody's -/
theorem EnvOk.drop (I : EnvOk K G0 H0 G H σ ρ) {j n : Nat} {t : Ty (n + 1)} (hj : ρ[j]? = some (.ow n t)) : ∃ x : ATy (n + 1), σ.getD j none = some (ATy.val (n + 1) x) ∧ ATy.era (n + 1) x = t ∧ ATy.ok K G H (n + 1) x ∧ ATy.nd (n + 1) x ∧ EnvR K G0 H0 G H σ (ρ.set j .no) (ATy.adr (n + 1) x) := by
  obtain ⟨len, b, w, hw⟩ := I
  obtain ⟨x, x1, x2, x3, x4, x5⟩ := hw j _ hj
  refine ⟨x, x1, x2, x3, x4, by simp [len], b, fun a => if a ∈ ATy.adr (n + 1) x then none else w a, fun i e he => ?_, fun a ha => ⟨if_pos ha, (x5 a ha).2⟩⟩
  by_cases c : j = i
  · subst c
    have hl : j < ρ.length := (List.getElem?_eq_some_iff.mp hj).1
    rw [List.getElem?_set_self hl] at he
    cases he
    trivial
  · rw [List.getElem?_set_ne c] at he
    refine (hw i e he).relabel fun a ha => ?_
    show (if a ∈ ATy.adr (n + 1) x then none else w a) = some i
    rw [if_neg]
    · exact ha
    · intro q
      rw [(x5 a q).1] at ha
      exact c (Option.some.inj ha)
theorem EnvR.at {i n : Nat} {t : Ty (n + 1)} (I : EnvR K G0 H0 G H σ ρ F) (hi : ρ[i]? = some (.ow n t)) : ∃ x : ATy (n + 1), σ.getD i none = some (ATy.val (n + 1) x) ∧ ATy.era (n + 1) x = t ∧ ATy.ok K G H (n + 1) x ∧ ATy.nd (n + 1) x ∧ (∀ a ∈ ATy.adr (n + 1) x, a ∉ F) ∧
    ∀ (x' : ATy (n + 1)) (a : Addr) (o : HO), ATy.val (n + 1) x' = ATy.val (n + 1) x → a ∈ ATy.adr (n + 1) x → ATy.ok K G (upd H a o) (n + 1) x' → ATy.nd (n + 1) x' → (∀ b ∈ ATy.adr (n + 1) x', b ∈ ATy.adr (n + 1) x ∨ b ∈ F) → EnvOk K G0 H0 G (upd H a o) σ (ρ.set i (.ow n (ATy.era (n + 1) x'))) := by
  obtain ⟨len, b, w, hw, hF⟩ := I
  obtain ⟨x, x1, x2, x3, x4, x5⟩ := hw i _ hi
  refine ⟨x, x1, x2, x3, x4, fun a ha q => ?_, fun x' a o e1 ha e2 e3 e4 => ?_⟩
  · have := (hF a q).1
    rw [(x5 a ha).1] at this
    cases this
  · have nH : H0 a = none := (x5 a ha).2.2
    have nG : G a = none := (x5 a ha).2.1
    have sH : Same H0 (upd H a o) := fun c u e => by
      rw [upd_ne (ne_of_none e nH)]
      exact b.h _ _ e
    have sG : Same G (upd H a o) := fun c u e => by
      rw [upd_ne (ne_of_none e nG)]
      exact b.s _ _ e
    refine ⟨by simp [len], ⟨b.g, sH, sG, b.m⟩, fun c => if c ∈ F then some i else w c, fun j e he => ?_⟩
    by_cases c : i = j
    · subst c
      have hl : i < ρ.length := (List.getElem?_eq_some_iff.mp hi).1
      rw [List.getElem?_set_self hl] at he
      cases he
      refine ⟨x', by rw [x1, e1], rfl, e2, e3, fun d hd => ?_⟩
      rcases e4 d hd with h | h
      · refine ⟨?_, (x5 d h).2⟩
        show (if d ∈ F then some i else w d) = some i
        by_cases q : d ∈ F
        · rw [if_pos q]
        · rw [if_neg q]; exact (x5 d h).1
      · exact ⟨if_pos h, (hF d h).2⟩
    · rw [List.getElem?_set_ne c] at he
      have h := hw j e he
      cases e with
      | no => trivial
      | im d => exact h
      | vv v => exact h
      | ob a0 C fs =>
        obtain ⟨z1, z2, z3, dx, vs, z4, z5⟩ := h
        refine ⟨z1, ?_, z3, dx, vs, ?_, z5⟩
        · show (if a0 ∈ F then some i else w a0) = some j
          rw [if_neg]
          · exact z2
          · intro q
            have e5 := (hF a0 q).1
            rw [z2] at e5
            cases e5
        · rw [upd_ne]
          · exact z4
          · intro q
            subst q
            have e5 := (x5 a0 ha).1
            rw [z2] at e5
            exact c (Option.some.inj e5).symm
      | ow m u =>
        obtain ⟨y, y1, y2, y3, y4, y5⟩ := h
        refine ⟨y, y1, y2, ATy.ok_keep (Same.refl _) _ _ (fun d hd => ?_) y3, y4, fun d hd => ⟨?_, (y5 d hd).2⟩⟩
        · rw [upd_ne]
          intro q
          subst q
          have e5 := (y5 d hd).1
          rw [(x5 d ha).1] at e5
          exact c (Option.some.inj e5)
        · show (if d ∈ F then some i else w d) = some j
          rw [if_neg]
          · exact (y5 d hd).1
          · intro q
            have e5 := (hF d q).1
            rw [(y5 d hd).1] at e5
            cases e5

/-! ### places within -/
def pathV (H : Hp) : V → List Nat → Option V
  | v, [] => some v
  | .ref a, j :: r => match H a with
    | some (.lst vs) => match vs[j]? with
      | some u => pathV H u r
      | none => none
    | _ => none
  | _, _ => none
theorem pathV_mono (s : Same H H') : ∀ (p : List Nat) (v u : V), pathV H v p = some u → pathV H' v p = some u
  | [], _, _, h => by simpa [pathV] using h
  | j :: r, v, u, h => by
    cases v with
    | ref a =>
      unfold pathV at h ⊢
      cases e : H a with
      | none => rw [e] at h; cases h
      | some o =>
        rw [e] at h
        rw [s _ _ e]
        cases o with
        | lst vs =>
          simp only at h ⊢
          cases e2 : vs[j]? with
          | none => rw [e2] at h; cases h
          | some z => rw [e2] at h; exact pathV_mono s r z u h
        | _ => cases h
    | _ => cases h
theorem pathV_app : ∀ (p q : List Nat) (v u : V), pathV H v p = some u → pathV H v (p ++ q) = pathV H u q
  | [], q, v, u, h => by
    have e : v = u := by simpa [pathV] using h
    rw [e] <;> rfl
  | j :: r, q, v, u, h => by
    cases v with
    | ref a =>
      have key : ∀ s, pathV H (.ref a) (j :: s) = (match H a with
        | some (.lst vs) => match vs[j]? with
          | some u => pathV H u s
          | none => none
        | _ => none) := fun s => by rw [pathV]
      show pathV H (.ref a) (j :: (r ++ q)) = _
      rw [key] at h ⊢
      cases e : H a with
      | none => rw [e] at h; cases h
      | some o =>
        rw [e] at h
        cases o with
        | lst vs =>
          simp only at h ⊢
          cases e2 : vs[j]? with
          | none => rw [e2] at h; cases h
          | some z =>
            rw [e2] at h
            simp only at h ⊢
            exact pathV_app r q z u h
        | _ => cases h
    | _ => cases h
abbrev Ty.ks {n : Nat} (l : Ty (n + 1)) : List (Ty n) := l
/-- how many items stand at a place -/
def lenP : (n : Nat) → Ty (n + 1) → List Nat → Option Nat
  | _, l, [] => some (List.length l)
  | 0, _, _ :: _ => none
  | n + 1, l, j :: r => match (Ty.ks l)[j]? with
    | some u => lenP n u r
    | none => none
/-- the list at a place changes -/
def modP (f : (m : Nat) → List (Ty m) → Option (List (Ty m))) : (n : Nat) → Ty (n + 1) → List Nat → Option (Ty (n + 1))
  | n, l, [] => f n l
  | 0, _, _ :: _ => none
  | n + 1, l, j :: r => match (Ty.ks l)[j]? with
    | some u => match modP f n u r with
      | some u' => some ((Ty.ks l).set j u')
      | none => none
    | none => none
theorem lenP_ok : ∀ (p : List Nat) (n : Nat) (x : ATy (n + 1)) (l : Nat), lenP n (ATy.era (n + 1) x) p = some l → ATy.ok K G H (n + 1) x → ∃ a vs, pathV H (ATy.val (n + 1) x) p = some (.ref a) ∧ H a = some (.lst vs) ∧ vs.length = l
  | [], n, x, l, h, ok => by
    have h' : some (List.length ((x.2 : List (ATy n)).map (ATy.era n))) = some l := by
      cases n <;> exact h
    refine ⟨x.1, _, rfl, ok.1, ?_⟩
    have := Option.some.inj h'
    simpa using this
  | j :: r, 0, x, l, h, ok => by cases h
  | j :: r, n + 1, x, l, h, ok => by
    have h' : (match ((x.2 : List (ATy (n + 1))).map (ATy.era (n + 1)))[j]? with
      | some u => lenP n u r
      | none => none) = some l := h
    rw [List.getElem?_map] at h'
    cases e : (x.2 : List (ATy (n + 1)))[j]? with
    | none => rw [e] at h'; cases h'
    | some y =>
      rw [e] at h'
      obtain ⟨a, vs, h1, h2, h3⟩ := lenP_ok r n y l h' (ok.2 y (List.mem_of_getElem? e))
      refine ⟨a, vs, ?_, h2, h3⟩
      show pathV H (.ref x.1) (j :: r) = _
      unfold pathV
      rw [ok.1]
      simp only [List.getElem?_map, e, Option.map_some]
      exact h1
theorem modP_ok {f : (m : Nat) → List (Ty m) → Option (List (Ty m))} {F : List Addr} : ∀ (p : List Nat) (n : Nat) (x : ATy (n + 1)) (t' : Ty (n + 1)), modP f n (ATy.era (n + 1) x) p = some t' → ATy.ok K G H (n + 1) x → ATy.nd (n + 1) x → (∀ b ∈ ATy.adr (n + 1) x, b ∉ F) →
    ∃ (a : Addr) (m : Nat) (ks : List (ATy m)) (l' : List (Ty m)), pathV H (ATy.val (n + 1) x) p = some (.ref a) ∧ a ∈ ATy.adr (n + 1) x ∧ H a = some (.lst (ks.map (ATy.val m))) ∧ f m (ks.map (ATy.era m)) = some l' ∧ (∀ y ∈ ks, ATy.ok K G H m y) ∧ (∀ y ∈ ks, ∀ b ∈ ATy.adr m y, b ∉ F) ∧ (ks.Pairwise fun y z => ∀ a ∈ ATy.adr m y, a ∉ ATy.adr m z) ∧
      ∀ ks' : List (ATy m), ks'.map (ATy.era m) = l' → (∀ z ∈ ks', z ∈ ks ∨ (ATy.ok K G H m z ∧ ATy.nd m z ∧ ∀ b ∈ ATy.adr m z, b ∈ F)) → (ks'.Pairwise fun y z => ∀ a ∈ ATy.adr m y, a ∉ ATy.adr m z) →
        ∃ x' : ATy (n + 1), ATy.val (n + 1) x' = ATy.val (n + 1) x ∧ ATy.era (n + 1) x' = t' ∧ ATy.ok K G (upd H a (.lst (ks'.map (ATy.val m)))) (n + 1) x' ∧ ATy.nd (n + 1) x' ∧ ∀ b ∈ ATy.adr (n + 1) x', b ∈ ATy.adr (n + 1) x ∨ b ∈ F
  | [], n, x, t', h, ok, nd, hF => by
    have h' : f n ((x.2 : List (ATy n)).map (ATy.era n)) = some t' := by cases n <;> exact h
    have hx1 : x.1 ∈ ATy.adr (n + 1) x := by simp [ATy.adr]
    have hin : ∀ y ∈ (x.2 : List (ATy n)), ∀ b ∈ ATy.adr n y, b ∈ ATy.adr (n + 1) x := fun y hy b hb => by
      simp only [ATy.adr, List.mem_cons, List.mem_flatMap]
      exact .inr ⟨y, hy, hb⟩
    refine ⟨x.1, n, x.2, t', rfl, hx1, ok.1, h', ok.2, fun y hy b hb => hF b (hin y hy b hb), nd.2, fun ks' e1 hk hp => ?_⟩
    have apart : ∀ z ∈ ks', x.1 ∉ ATy.adr n z := fun z hz q => by
      rcases hk z hz with h | h
      · exact (nd.1 z h).2 q
      · exact hF _ hx1 (h.2.2 _ q)
    refine ⟨((x.1, ks') : Addr × List (ATy n)), rfl, e1, ⟨upd_same, fun z hz => ?_⟩, ⟨fun z hz => ⟨?_, apart z hz⟩, hp⟩, fun b hb => ?_⟩
    · refine ATy.ok_keep (Same.refl _) n z (fun b hb => upd_ne fun q => ?_) ?_
      · subst q; exact apart z hz hb
      · rcases hk z hz with h | h
        · exact ok.2 z h
        · exact h.1
    · rcases hk z hz with h | h
      · exact (nd.1 z h).1
      · exact h.2.1
    · have hb' : b ∈ x.1 :: ks'.flatMap (ATy.adr n) := hb
      simp only [List.mem_cons, List.mem_flatMap] at hb'
      rcases hb' with rfl | ⟨z, hz, hb⟩
      · exact .inl hx1
      · rcases hk z hz with h | h
        · exact .inl (hin z h b hb)
        · exact .inr (h.2.2 b hb)
  | j :: r, 0, x, t', h, ok, nd, hF => by cases h
  | j :: r, n + 1, x, t', h, ok, nd, hF => by
    have hx1 : x.1 ∈ ATy.adr (n + 2) x := by simp [ATy.adr]
    have hin : ∀ y ∈ (x.2 : List (ATy (n + 1))), ∀ b ∈ ATy.adr (n + 1) y, b ∈ ATy.adr (n + 2) x := fun y hy b hb => by
      simp only [ATy.adr, List.mem_cons, List.mem_flatMap]
      exact .inr ⟨y, hy, by simpa [ATy.adr] using hb⟩
    have h' : (match ((x.2 : List (ATy (n + 1))).map (ATy.era (n + 1)))[j]? with
      | some u => match modP f n u r with
        | some u' => some ((((x.2 : List (ATy (n + 1))).map (ATy.era (n + 1))) : List (Ty (n + 1))).set j u')
        | none => none
      | none => none) = some t' := h
    rw [List.getElem?_map] at h'
    cases e : (x.2 : List (ATy (n + 1)))[j]? with
    | none => rw [e] at h'; cases h'
    | some y =>
      rw [e] at h'
      simp only [Option.map_some] at h'
      have hy := List.mem_of_getElem? e
      cases e2 : modP f n (ATy.era (n + 1) y) r with
      | none => rw [e2] at h'; cases h'
      | some u' =>
        rw [e2] at h'
        have et : ((x.2 : List (ATy (n + 1))).map (ATy.era (n + 1))).set j u' = t' := Option.some.inj h'
        obtain ⟨a, m, ks, l', h1, h2, h3, h4, h5, h6, h7, h8⟩ := modP_ok r n y u' e2 (ok.2 y hy) (nd.1 y hy).1 (fun b hb => hF b (hin y hy b hb))
        refine ⟨a, m, ks, l', ?_, hin y hy a h2, h3, h4, h5, h6, h7, fun ks' e1 hk hp => ?_⟩
        · show pathV H (.ref x.1) (j :: r) = _
          unfold pathV
          rw [ok.1]
          simp only [List.getElem?_map, e, Option.map_some]
          exact h1
        · obtain ⟨y', q1, q2, q3, q4, q5⟩ := h8 ks' e1 hk hp
          have hjl : j < (x.2 : List (ATy (n + 1))).length := (List.getElem?_eq_some_iff.mp e).1
          have ej : (x.2 : List (ATy (n + 1)))[j] = y := (List.getElem?_eq_some_iff.mp e).2
          have a1 : a ≠ x.1 := fun q => (nd.1 y hy).2 (q ▸ h2)
          have pw := List.pairwise_iff_getElem.mp nd.2
          have other : ∀ (i : Nat) (hi : i < (x.2 : List (ATy (n + 1))).length), i ≠ j → ∀ b ∈ ATy.adr (n + 1) y, b ∉ ATy.adr (n + 1) ((x.2 : List (ATy (n + 1)))[i]) := by
            intro i hi hne b hb q
            by_cases c : i < j
            · exact pw i j hi hjl c b q (ej ▸ hb)
            · exact pw j i hjl hi (by omega) b (ej ▸ hb) q
          have mem' : ∀ z ∈ (x.2 : List (ATy (n + 1))).set j y', z = y' ∨ ∃ (i : Nat) (hi : i < (x.2 : List (ATy (n + 1))).length), i ≠ j ∧ z = (x.2 : List (ATy (n + 1)))[i] := by
            intro z hz
            obtain ⟨i, hi, ez⟩ := List.mem_iff_getElem.mp hz
            rw [List.length_set] at hi
            by_cases c : j = i
            · subst c
              rw [List.getElem_set_self] at ez
              exact .inl ez.symm
            · rw [List.getElem_set_ne c] at ez
              exact .inr ⟨i, hi, Ne.symm c, ez.symm⟩
          refine ⟨((x.1, (x.2 : List (ATy (n + 1))).set j y') : Addr × List (ATy (n + 1))), rfl, ?_, ⟨?_, ?_⟩, ⟨?_, ?_⟩, ?_⟩
          · show ((x.2 : List (ATy (n + 1))).set j y').map (ATy.era (n + 1)) = t'
            rw [List.map_set, q2, et]
          · show upd H a _ x.1 = some (.lst (((x.2 : List (ATy (n + 1))).set j y').map (ATy.val (n + 1))))
            rw [upd_ne (Ne.symm a1), ok.1, List.map_set, q1]
            have e3 : ((x.2 : List (ATy (n + 1))).map (ATy.val (n + 1))).set j (ATy.val (n + 1) y) = (x.2 : List (ATy (n + 1))).map (ATy.val (n + 1)) := by
              rw [← ej, ← List.map_set, List.set_getElem_self]
            rw [e3]
          · intro z hz
            rcases mem' z hz with rfl | ⟨i, hi, hne, rfl⟩
            · exact q3
            · refine ATy.ok_keep (Same.refl _) _ _ (fun b hb => upd_ne fun q => ?_) (ok.2 _ (List.getElem_mem hi))
              subst q
              exact other i hi hne b h2 hb
          · intro z hz
            rcases mem' z hz with rfl | ⟨i, hi, hne, rfl⟩
            · refine ⟨q4, fun q => ?_⟩
              rcases q5 _ q with h | h
              · exact (nd.1 y hy).2 h
              · exact hF _ hx1 h
            · exact nd.1 _ (List.getElem_mem hi)
          · have disj : ∀ (i : Nat) (hi : i < (x.2 : List (ATy (n + 1))).length), i ≠ j → ∀ b ∈ ATy.adr (n + 1) y', b ∉ ATy.adr (n + 1) ((x.2 : List (ATy (n + 1)))[i]) := by
              intro i hi hne b hb q
              rcases q5 b hb with h | h
              · exact other i hi hne b h q
              · exact hF b (hin _ (List.getElem_mem hi) b q) h
            refine List.pairwise_iff_getElem.mpr fun i1 i2 hi1 hi2 hlt => ?_
            have hi1' : i1 < (x.2 : List (ATy (n + 1))).length := by simpa using hi1
            have hi2' : i2 < (x.2 : List (ATy (n + 1))).length := by simpa using hi2
            intro b hb q
            by_cases c1 : j = i1
            · subst c1
              rw [List.getElem_set_self] at hb
              rw [List.getElem_set_ne (by omega)] at q
              exact disj i2 hi2' (by omega) b hb q
            · rw [List.getElem_set_ne c1] at hb
              by_cases c2 : j = i2
              · subst c2
                rw [List.getElem_set_self] at q
                exact disj i1 hi1' (by omega) b q hb
              · rw [List.getElem_set_ne c2] at q
                exact pw i1 i2 hi1' hi2' hlt b hb q
          · intro b hb
            have hb' : b ∈ x.1 :: ((x.2 : List (ATy (n + 1))).set j y').flatMap (ATy.adr (n + 1)) := hb
            simp only [List.mem_cons, List.mem_flatMap] at hb'
            rcases hb' with rfl | ⟨z, hz, hb2⟩
            · exact .inl hx1
            · rcases mem' z hz with ez | ⟨i, hi, hne, ez⟩
              · rw [ez] at hb2
                rcases q5 b hb2 with h | h
                · exact .inl (hin y hy b h)
                · exact .inr h
              · rw [ez] at hb2
                exact .inl (hin _ (List.getElem_mem hi) b hb2)
end
end Z

/-! ## ZA -/
set_option Elab.async false
set_option linter.all false
set_option maxRecDepth 100000
set_option maxHeartbeats 2000000
namespace Z
open PySem PySem.Spec PyProof.Rows L2

abbrev QD := Env → Out (List Nat)
/-- a place within an owned list: x, x[e], x[e][f] .. -/
structure SPl (X : Cx) (E : XK) (C : CM) (i : Nat) (e : Expr) (q : QD) : Prop where
  p : ∃ te, PE X e te ∧ ∀ G0 H0 G H σ ρ (Q : VK), EnvOk X.K G0 H0 G H σ ρ → (match q ρ with
    | .ok p => ∀ v G' H', Grow G H G' H' → (∀ v0, σ.getD i none = some v0 → pathV H' v0 p = some v) → Q v H'
    | .ex c => ∀ G' H', Grow G H G' H' → E (C c) none H'
    | .st => False) → te σ H Q
def QOk (E : XK) (C : CM) (σ : L2.St) (i : Nat) (Q : VK) (G H : Hp) : Out (List Nat) → Prop
  | .ok p => ∀ v G' H', Grow G H G' H' → (∀ v0, σ.getD i none = some v0 → pathV H' v0 p = some v) → Q v H'
  | .ex c => ∀ G' H', Grow G H G' H' → E (C c) none H'
  | .st => False
theorem famQ {E : XK} {C : CM} {σ : L2.St} {i : Nat} {Q : VK} : Fam E C (QOk E C σ i Q) := ⟨fun {G H G' H' o} h g => by
  cases o with
  | ok r => exact fun v G2 H2 g2 => h v G2 H2 (g.trans g2)
  | ex c => exact fun G2 H2 g2 => h G2 H2 (g.trans g2)
  | st => exact h, fun h => h, fun h => h⟩
def varQ : QD := fun _ => .ok []
def ixQ (i : Nat) (q : QD) (e : ED) : QD := fun ρ => (q ρ).bind fun p => (e ρ).bind fun r => match r.dat with
  | .int k => match ρ[i]? with
    | some (.ow n t) => match lenP n t p with
      | some l => match ixN l k with
        | some j => .ok (p ++ [j])
        | none => .st
      | none => .st
    | _ => .st
  | _ => .st
section
variable {X : Cx} {E : XK} {C : CM}
theorem spl_var (i : Nat) {x : Str} {pos : Pos} (hN : X.N[i]? = some x := by rfl) (hv : Vis X.env.scope x := by first | exact Or.inl rfl | exact Or.inr (Or.inl rfl) | exact Or.inr (Or.inr rfl)) (hd : (x == ("__debug__" : Str)) = false := by decide)
    (hcd : (x == ("__classdict__" : Str)) = false := by decide) (w : True := trivial) : SPl X E C i (.Name x pos) (fun ρ => match ρ[i]? with
      | some (.ow _ _) => .ok []
      | _ => .st) := ⟨_, pe_var hN hv hd hcd, fun G0 H0 G H σ ρ Q I h => by
  obtain ⟨len, b, w, he⟩ := I
  cases e : ρ[i]? with
  | none => rw [e] at h; exact h.elim
  | some x =>
    rw [e] at h
    have q := he i x e
    cases x with
    | no => exact h.elim
    | im d => exact h.elim
    | ow n t =>
      obtain ⟨y, ev, _⟩ := q
      refine ⟨_, getD_some ev, h _ G H (Grow.refl b.s) fun v0 e0 => ?_⟩
      rw [ev] at e0
      cases e0
      rfl
    | vv v => exact h.elim
    | ob a C fs => exact h.elim⟩
theorem spl_ix {i : Nat} {e f : Expr} {q : QD} {d : ED} {pos : Pos} (he : SPl X E C i e q) (hf : SE X E C f d) (hs : PlainIx f) : SPl X E C i (.Subscript e f pos) (ixQ i q d) := by
  obtain ⟨te, pe, se⟩ := he
  obtain ⟨tf, pf, sf⟩ := hf
  refine ⟨_, pe_ix ix_seq pe pf hs, fun G0 H0 G H σ ρ Q I h => ?_⟩
  refine se G0 H0 G H σ ρ _ I ?_
  unfold ixQ at h
  cases eq : q ρ with
  | st => rw [eq] at h; exact h
  | ex c => rw [eq] at h; exact h
  | ok p =>
    rw [eq] at h
    intro v G1 H1 g1 hv
    have I1 := I.grow g1
    have h1 : QOk E C σ i Q G1 H1 ((d ρ).bind fun r => match r.dat with
      | .int k => match ρ[i]? with
        | some (.ow n t) => match lenP n t p with
          | some l => match ixN l k with
            | some j => .ok (p ++ [j])
            | none => .st
          | none => .st
        | _ => .st
      | _ => .st) := famQ.up (show QOk E C σ i Q G H _ from h) g1
    refine sf.use famQ I1 h1 fun r x G2 H2 e2 g2 I2 k2 h2 => ?_
    have k := k2.rp I2.s
    split at h2
    · rename_i k0 q0
      rw [q0] at k
      cases k
      split at h2
      · rename_i n t eρ
        split at h2
        · rename_i l el
          split at h2
          · rename_i j ej
            obtain ⟨z, z1, z2, z3, _⟩ := I2.r.at eρ
            subst z2
            obtain ⟨a, vs, a1, a2, a3⟩ := lenP_ok p n z l el z3
            have hv2 := pathV_mono g2.h p _ _ (hv _ z1)
            rw [a1] at hv2
            cases hv2
            obtain ⟨_, hj, _⟩ := ixN_seq ej
            have hjl : j < vs.length := by omega
            refine .inl ⟨a, vs, k0, vs[j], rfl, rfl, SqL.of a2, ?_, h2 _ G2 H2 (Grow.refl I2.s) fun v0 e0 => ?_⟩
            · unfold atI
              rw [a3, ej]
              exact List.getElem?_eq_getElem hjl
            · rw [z1] at e0
              cases e0
              rw [pathV_app p [j] _ _ a1]
              show pathV H2 (.ref a) [j] = _
              unfold pathV
              rw [a2]
              simp only [List.getElem?_eq_getElem hjl]
              rfl
          · exact h2.elim
        · exact h2.elim
      · exact h2.elim
    · exact h2.elim

/-! ### append -/
abbrev T0 (d : PD) : Ty 0 := d
abbrev LF := (m : Nat) → List (Ty m) → Option (List (Ty m))
def apF (d : PD) : LF
  | 0, l => if l.length ≤ 100000 then some (l ++ [T0 d]) else none
  | _ + 1, _ => none
def apN (n : Nat) (t : Ty (n + 1)) : LF
  | 0, _ => none
  | m + 1, l => if h : m = n then if l.length ≤ 100000 then some (l ++ [h ▸ t]) else none else none
def upE (i : Nat) (p : List Nat) (f : LF) : SD := fun ρ => match ρ[i]? with
  | some (.ow n t) => match modP f n t p with
    | some t' => .nx (ρ.set i (.ow n t'))
    | none => .st
  | _ => .st
def apR (r : R) : Option LF := match r with
  | .im d => some (apF d)
  | .fr n t => some (apN n t)
  | .ro _ _ => none
def bindQ (o : Out (List Nat)) (k : List Nat → SO) : SO := match o with
  | .ok p => k p
  | .ex c => .ex c
  | .st => .st
def appD (i : Nat) (q : QD) (e : ED) : SD := fun ρ => bindQ (q ρ) fun p => bindS (noX (e ρ)) fun r => match apR r with
  | some f => upE i p f ρ
  | none => .st
theorem pairwise_snoc {α : Type} {P : α → α → Prop} {l : List α} {z : α} (h : l.Pairwise P) (k : ∀ y ∈ l, P y z) : (l ++ [z]).Pairwise P := by
  rw [List.pairwise_append]
  exact ⟨h, List.pairwise_singleton _ _, fun a ha b hb => by rw [List.mem_singleton] at hb; subst hb; exact k a ha⟩
/-- what an append at a place does -/
theorem app_step {K : PySem.W.Frag} {G0 H0 G H : Hp} {σ : L2.St} {ρ : Env} {F : List Addr} {i n : Nat} {t t' : Ty (n + 1)} {p : List Nat} {r : R} {f : LF} {y v : V} (I : EnvR K G0 H0 G H σ ρ F) (hi : ρ[i]? = some (.ow n t)) (hr : ROk K hpE G H r y) (hF : ∀ m u, r = .fr m u → ∃ z : ATy (m + 1), ATy.era (m + 1) z = u ∧ ATy.val (m + 1) z = y ∧ ATy.ok K G H (m + 1) z ∧ ATy.nd (m + 1) z ∧ ∀ a ∈ ATy.adr (m + 1) z, a ∈ F)
    (ef : apR r = some f) (em : modP f n t p = some t') (hv : ∀ v0, σ.getD i none = some v0 → pathV H v0 p = some v) : ∃ a xs, v = .ref a ∧ H a = some (.lst xs) ∧ xs.length < sizeLine ∧ EnvOk K G0 H0 G (upd H a (.lst (xs ++ [y]))) σ (ρ.set i (.ow n t')) := by
  obtain ⟨x, x1, x2, x3, x4, x5, x6⟩ := I.at hi
  subst x2
  obtain ⟨a, m, ks, l', a1, a2, a3, a4, a5, a6, a7, a8⟩ := modP_ok (F := F) p n x t' em x3 x4 x5
  have e1 := hv _ x1
  rw [a1] at e1
  cases e1
  refine ⟨a, _, rfl, a3, ?_, ?_⟩
  · rw [List.length_map]
    cases r with
    | ro m u => cases ef
    | im d =>
      cases ef
      cases m with
      | zero =>
        simp only [apF] at a4
        split at a4
        · rename_i c; rw [List.length_map] at c; exact lt_line c
        · cases a4
      | succ m => cases a4
    | fr k u =>
      cases ef
      cases m with
      | zero => cases a4
      | succ m =>
        simp only [apN] at a4
        split at a4
        · split at a4
          · rename_i c; rw [List.length_map] at c; exact lt_line c
          · cases a4
        · cases a4
  · have fin : ∀ z : ATy m, ATy.val m z = y → (ks.map (ATy.era m)) ++ [ATy.era m z] = l' → ATy.ok K G H m z → ATy.nd m z → (∀ b ∈ ATy.adr m z, b ∈ F) → EnvOk K G0 H0 G (upd H a (.lst (ks.map (ATy.val m) ++ [y]))) σ (ρ.set i (.ow n t')) := by
      intro z z1 z2 z3 z4 z5
      obtain ⟨x', q1, q2, q3, q4, q5⟩ := a8 (ks ++ [z]) (by rw [List.map_append]; exact z2) (fun w hw => by
        rw [List.mem_append, List.mem_singleton] at hw
        rcases hw with h | h
        · exact .inl h
        · subst h; exact .inr ⟨z3, z4, z5⟩) (pairwise_snoc a7 fun w hw b hb q => a6 w hw b hb (z5 b q))
      rw [List.map_append] at q3
      have e2 : List.map (ATy.val m) [z] = [y] := by rw [List.map_singleton, z1]
      rw [e2] at q3
      have := x6 x' a _ q1 a2 q3 q4 q5
      rw [q2] at this
      exact this
    cases r with
    | ro m u => cases ef
    | im d =>
      cases ef
      cases m with
      | zero =>
        simp only [apF] at a4
        split at a4
        · exact fin ((y, d) : V × PD) rfl (Option.some.inj a4) hr trivial (fun _ h => nomatch h)
        · cases a4
      | succ m => cases a4
    | fr k u =>
      cases ef
      cases m with
      | zero => cases a4
      | succ m =>
        simp only [apN] at a4
        split at a4
        · rename_i hmk
          subst hmk
          split at a4
          · obtain ⟨z, z1, z2, z3, z4, z5⟩ := hF m u rfl
            refine fin z z2 ?_ z3 z4 z5
            rw [z1]
            exact Option.some.inj a4
          · cases a4
        · cases a4
theorem ROk.frF {K : PySem.W.Frag} {H0 G H : Hp} {r : R} {v : V} (h : ROk K H0 G H r v) : ∃ F : List Addr, (∀ a ∈ F, H0 a = none ∧ G a = none) ∧ ∀ m u, r = .fr m u → ∃ z : ATy (m + 1), ATy.era (m + 1) z = u ∧ ATy.val (m + 1) z = v ∧ ATy.ok K G H (m + 1) z ∧ ATy.nd (m + 1) z ∧ ∀ a ∈ ATy.adr (m + 1) z, a ∈ F := by
  cases r with
  | im d => exact ⟨[], (fun _ h => nomatch h), fun m u e => by cases e⟩
  | ro n t => exact ⟨[], (fun _ h => nomatch h), fun m u e => by cases e⟩
  | fr n t =>
    obtain ⟨x, e1, e2, e3, e4, e5⟩ := h
    exact ⟨ATy.adr (n + 1) x, e5, fun m u e => by cases e; exact ⟨x, e1, e2, e3, e4, fun _ h => h⟩⟩
theorem sim_nx {K : PySem.W.Frag} {te : TE} {d : ED} (h : SimE K E C te d) : SimE K E C te fun ρ => noX (d ρ) := by
  intro G0 H0 G H σ ρ Q I q
  refine h G0 H0 G H σ ρ Q I ?_
  cases e : d ρ with
  | ok r => simp only [e, noX] at q; exact q
  | ex c => simp only [e, noX] at q; exact q.elim
  | st => simp only [e, noX] at q; exact q
theorem app_out {K : PySem.W.Frag} {G0 H0 G : Hp} {D : Ends} {ρ : Env} {i : Nat} {p : List Nat} {o : Out R} (h : SOk K E C G0 H0 G D (bindS (noX o) fun r => match apR r with
    | some f => upE i p f ρ
    | none => .st)) : ∃ r f n t t', o = .ok r ∧ apR r = some f ∧ ρ[i]? = some (.ow n t) ∧ modP f n t p = some t' := by
  cases o with
  | st => exact h.elim
  | ex c => exact h.elim
  | ok r =>
    cases ea : apR r with
    | none => simp only [noX, bindS, ea] at h; exact h.elim
    | some f =>
      simp only [noX, bindS, ea, upE] at h
      cases ei : ρ[i]? with
      | none => rw [ei] at h; exact h.elim
      | some en =>
        rw [ei] at h
        cases en with
        | no => exact h.elim
        | im _ => exact h.elim
        | ow n t =>
          simp only at h
          cases em : modP f n t p with
          | none => rw [em] at h; exact h.elim
          | some t' => exact ⟨r, f, n, t, t', rfl, ea, rfl, em⟩
        | vv _ => exact h.elim
        | ob _ _ _ => exact h.elim
theorem ss_app {i : Nat} {o e : Expr} {q : QD} {d : ED} {apos cpos pos : Pos} (ho : SPl X E C i o q) (he : SE X E C e d)
    (hst : starEach [e] X.env = (false, eval e X.env) :: starEach [] X.env := by rfl) (hpl : (backTo cpos (starEach [] X.env)).any (·.1) = false := by rfl)
    (hp : ∀ to t, PE X o to → PA X [e] t → PE X (.Call (.Attribute o "append" apos) [e] [] cpos) (tBM X.K "list" rAppend to t)) (hs : swapsWith (.Call (.Attribute o "append" apos) [e] [] cpos) none pos.line X.env = pure false := by rfl) :
    SS X E C (.Expr (.Call (.Attribute o "append" apos) [e] [] cpos) pos) (appD i q d) := by
  obtain ⟨to, po, so⟩ := ho
  obtain ⟨te, pe, se⟩ := he
  refine ⟨_, ps_expr (hp _ _ po (pa_cons pe pa_nil hst)) hs, fun G0 H0 G H σ ρ D I h => ?_⟩
  unfold appD at h
  refine so G0 H0 G H σ ρ _ I ?_
  cases eq : q ρ with
  | st => rw [eq] at h; exact h
  | ex c => rw [eq] at h; exact fun G' H' g => h G' H' (I.b.trans g)
  | ok p =>
    rw [eq] at h
    intro v G1 H1 g1 hv
    have I1 := I.grow g1
    have h1 : SOk X.K E C G0 H0 G1 D (bindS (noX (d ρ)) fun r => match apR r with
      | some f => upE i p f ρ
      | none => .st) := SOk.up h g1.g
    obtain ⟨r, f, n, t, t', ed, ef, ei, em⟩ := app_out h1
    have tyv : tyV X.K "list" v H1 := by
      obtain ⟨x, x1, x2, x3, x4, x5, x6⟩ := I1.r.at ei
      subst x2
      obtain ⟨a, m, ks, l', a1, a2, a3, _⟩ := modP_ok (F := []) p n x t' em x3 x4 x5
      have e1 := hv _ x1
      rw [a1] at e1
      cases e1
      exact .inl ⟨rfl, _, SqL.of a3⟩
    refine ⟨tyv, ?_⟩
    show te σ H1 _
    refine (sim_nx se).useS I1 h1 fun r' y G2 H2 e2 g2 I2 hr h2 => ?_
    have er : r' = r := by
      have e2' : noX (d ρ) = .ok r' := e2
      rw [ed] at e2'
      cases e2'
      rfl
    subst er
    obtain ⟨F, hF1, hF2⟩ := hr.frF
    obtain ⟨a, xs, ev, ha, hl, I3⟩ := app_step (I1.fresh g2 hF1) ei hr.e hF2 ef em (fun v0 e0 => pathV_mono g2.h p _ _ (hv v0 e0))
    refine ⟨a, xs, y, ev, rfl, ha, hl, ?_⟩
    simp only [ef, upE, ei, em] at h2
    exact h2 σ G2 _ (Same.refl _) I3
end
end Z
namespace Z
open PySem PySem.Spec PyProof.Rows L2
def ownQ (i : Nat) : QD := fun ρ => match ρ[i]? with
  | some (.ow _ _) => .ok []
  | _ => .st
end Z

/-! ## ZB -/
set_option Elab.async false
set_option linter.all false
set_option maxRecDepth 100000
set_option maxHeartbeats 2000000
namespace Z
open PySem PySem.Spec PyProof.Rows L2
section
variable {X : Cx} {E : XK} {C : CM}
/-! ### P.append(y), y an owned list: it moves -/
def appVD (i : Nat) (q : QD) (j : Nat) : SD := fun ρ => bindQ (q ρ) fun p => match ρ[j]? with
  | some (.im d) => upE i p (apF d) ρ
  | some (.ow n t) => upE i p (apN n t) (ρ.set j .no)
  | _ => .st
theorem upE_out {K : PySem.W.Frag} {G0 H0 G : Hp} {D : Ends} {ρ : Env} {i : Nat} {p : List Nat} {f : LF} (h : SOk K E C G0 H0 G D (upE i p f ρ)) : ∃ n t t', ρ[i]? = some (.ow n t) ∧ modP f n t p = some t' ∧ SOk K E C G0 H0 G D (.nx (ρ.set i (.ow n t'))) := by
  simp only [upE] at h
  cases ei : ρ[i]? with
  | none => rw [ei] at h; exact h.elim
  | some en =>
    rw [ei] at h
    cases en with
    | no => exact h.elim
    | im _ => exact h.elim
    | ow n t =>
      simp only at h
      cases em : modP f n t p with
      | none => rw [em] at h; exact h.elim
      | some t' => rw [em] at h; exact ⟨n, t, t', rfl, em, h⟩
    | vv _ => exact h.elim
    | ob _ _ _ => exact h.elim
theorem ss_appV {i j : Nat} {o : Expr} {x : Str} {q : QD} {xp apos cpos pos : Pos} (ho : SPl X E C i o q) (hN : X.N[j]? = some x := by rfl) (hv : Vis X.env.scope x := by first | exact Or.inl rfl | exact Or.inr (Or.inl rfl) | exact Or.inr (Or.inr rfl)) (hd : (x == ("__debug__" : Str)) = false := by decide)
    (hcd : (x == ("__classdict__" : Str)) = false := by decide)
    (hst : starEach [.Name x xp] X.env = (false, eval (.Name x xp) X.env) :: starEach [] X.env := by rfl)
    (hp : ∀ to t, PE X o to → PA X [.Name x xp] t → PE X (.Call (.Attribute o "append" apos) [.Name x xp] [] cpos) (tBM X.K "list" rAppend to t)) (hs : swapsWith (.Call (.Attribute o "append" apos) [.Name x xp] [] cpos) none pos.line X.env = pure false := by rfl) :
    SS X E C (.Expr (.Call (.Attribute o "append" apos) [.Name x xp] [] cpos) pos) (appVD i q j) := by
  obtain ⟨to, po, so⟩ := ho
  refine ⟨_, ps_expr (hp _ _ po (pa_cons (pe_var hN hv hd hcd) pa_nil hst)) hs, fun G0 H0 G H σ ρ D I h => ?_⟩
  unfold appVD at h
  refine so G0 H0 G H σ ρ _ I ?_
  cases eq : q ρ with
  | st => rw [eq] at h; exact h
  | ex c => rw [eq] at h; exact fun G' H' g => h G' H' (I.b.trans g)
  | ok p =>
    rw [eq] at h
    simp only [bindQ] at h
    intro v G1 H1 g1 hv
    have I1 := I.grow g1
    cases ej : ρ[j]? with
    | none => rw [ej] at h; exact h.elim
    | some en =>
      rw [ej] at h
      cases en with
      | no => exact h.elim
      | im d =>
        obtain ⟨n, t, t', ei, em, h'⟩ := upE_out h
        obtain ⟨len, b, w, hw⟩ := id I1
        obtain ⟨y, ey, ry⟩ := hw j _ ej
        obtain ⟨a, xs, ev, ha, hl, I3⟩ := app_step (r := .im d) I1.r ei ry (fun m u e => by cases e) rfl em hv
        exact ⟨by rw [ev]; exact .inl ⟨rfl, _, SqL.of ha⟩, y, getD_some ey, a, xs, y, ev, rfl, ha, hl, h' σ G1 _ g1.g I3⟩
      | vv v => exact h.elim
      | ob a C fs => exact h.elim
      | ow n2 t2 =>
        obtain ⟨n, t, t', ei, em, h'⟩ := upE_out h
        obtain ⟨z, z1, z2, z3, z4, IR⟩ := I1.drop ej
        obtain ⟨a, xs, ev, ha, hl, I3⟩ := app_step (r := .fr n2 t2) (y := ATy.val (n2 + 1) z) IR ei ⟨z, z2, rfl, z3, z4, fun a ha => ⟨rfl, (by obtain ⟨_, _, w, _, hF⟩ := id IR; exact (hF a ha).2.1)⟩⟩ (fun m u e => by cases e; exact ⟨z, z2, rfl, z3, z4, fun _ h => h⟩) rfl em hv
        exact ⟨by rw [ev]; exact .inl ⟨rfl, _, SqL.of ha⟩, _, getD_some z1, a, xs, _, ev, rfl, ha, hl, h' σ G1 _ g1.g I3⟩

/-! ### P[e] = f -/
def stF (k : Int) (d : PD) : LF
  | 0, l => (ixN l.length k).map fun j => l.set j (T0 d)
  | _ + 1, _ => none
def stN (k : Int) (n : Nat) (t : Ty (n + 1)) : LF
  | 0, _ => none
  | m + 1, l => if h : m = n then (ixN l.length k).map fun j => l.set j (h ▸ t) else none
def stR (k : Int) (r : R) : Option LF := match r with
  | .im d => some (stF k d)
  | .fr n t => some (stN k n t)
  | .ro _ _ => none
def setD (i : Nat) (q : QD) (ix e : ED) : SD := fun ρ => bindS (e ρ) fun r => bindQ (q ρ) fun p => bindS (ix ρ) fun r2 => match r2.dat with
  | .int k => match stR k r with
    | some f => upE i p f ρ
    | none => .st
  | _ => .st
theorem set_step {K : PySem.W.Frag} {G0 H0 G H : Hp} {σ : L2.St} {ρ : Env} {F : List Addr} {i n : Nat} {t t' : Ty (n + 1)} {p : List Nat} {r : R} {f : LF} {y v : V} {k : Int} (I : EnvR K G0 H0 G H σ ρ F) (hi : ρ[i]? = some (.ow n t)) (hr : ROk K hpE G H r y) (hF : ∀ m u, r = .fr m u → ∃ z : ATy (m + 1), ATy.era (m + 1) z = u ∧ ATy.val (m + 1) z = y ∧ ATy.ok K G H (m + 1) z ∧ ATy.nd (m + 1) z ∧ ∀ a ∈ ATy.adr (m + 1) z, a ∈ F)
    (ef : stR k r = some f) (em : modP f n t p = some t') (hv : ∀ v0, σ.getD i none = some v0 → pathV H v0 p = some v) : ∃ a xs j, v = .ref a ∧ H a = some (.lst xs) ∧ ixN xs.length k = some j ∧ EnvOk K G0 H0 G (upd H a (.lst (xs.set j y))) σ (ρ.set i (.ow n t')) := by
  obtain ⟨x, x1, x2, x3, x4, x5, x6⟩ := I.at hi
  subst x2
  obtain ⟨a, m, ks, l', a1, a2, a3, a4, a5, a6, a7, a8⟩ := modP_ok (F := F) p n x t' em x3 x4 x5
  have e1 := hv _ x1
  rw [a1] at e1
  cases e1
  have fin : ∀ (z : ATy m) (j : Nat), ixN ks.length k = some j → ATy.val m z = y → (ks.map (ATy.era m)).set j (ATy.era m z) = l' → ATy.ok K G H m z → ATy.nd m z → (∀ b ∈ ATy.adr m z, b ∈ F) → ∃ a' xs j, V.ref a = .ref a' ∧ H a' = some (.lst xs) ∧ ixN xs.length k = some j ∧ EnvOk K G0 H0 G (upd H a' (.lst (xs.set j y))) σ (ρ.set i (.ow n t')) := by
    intro z j z0 z1 z2 z3 z4 z5
    obtain ⟨x', q1, q2, q3, q4, q5⟩ := a8 (ks.set j z) (by rw [List.map_set]; exact z2) (fun w hw => by
      rcases List.mem_or_eq_of_mem_set hw with h | h
      · exact .inl h
      · subst h; exact .inr ⟨z3, z4, z5⟩) (by
      refine List.pairwise_iff_getElem.mpr fun i1 i2 h1 h2 hlt b hb q => ?_
      have pw := List.pairwise_iff_getElem.mp a7
      have l1 : i1 < ks.length := by simpa using h1
      have l2 : i2 < ks.length := by simpa using h2
      by_cases c1 : j = i1
      · subst c1
        rw [List.getElem_set_self] at hb
        rw [List.getElem_set_ne (by omega)] at q
        exact a6 _ (List.getElem_mem l2) b q (z5 b hb)
      · rw [List.getElem_set_ne c1] at hb
        by_cases c2 : j = i2
        · subst c2
          rw [List.getElem_set_self] at q
          exact a6 _ (List.getElem_mem l1) b hb (z5 b q)
        · rw [List.getElem_set_ne c2] at q
          exact pw i1 i2 l1 l2 hlt b hb q)
    rw [List.map_set, z1] at q3
    have := x6 x' a _ q1 a2 q3 q4 q5
    rw [q2] at this
    exact ⟨a, _, j, rfl, a3, by rw [List.length_map]; exact z0, this⟩
  cases r with
  | ro m u => cases ef
  | im d =>
    cases ef
    cases m with
    | zero =>
      simp only [stF, Option.map_eq_some_iff, List.length_map] at a4
      obtain ⟨j, j1, j2⟩ := a4
      exact fin ((y, d) : V × PD) j j1 rfl j2 hr trivial (fun _ h => nomatch h)
    | succ m => cases a4
  | fr k u =>
    cases ef
    cases m with
    | zero => cases a4
    | succ m =>
      simp only [stN] at a4
      split at a4
      · rename_i hmk
        subst hmk
        simp only [Option.map_eq_some_iff, List.length_map] at a4
        obtain ⟨j, j1, j2⟩ := a4
        obtain ⟨z, z1, z2, z3, z4, z5⟩ := hF m u rfl
        exact fin z j j1 z2 (by rw [z1]; exact j2) z3 z4 z5
      · cases a4
theorem ss_setI {i : Nat} {o ie e : Expr} {q : QD} {di d : ED} {sp pos : Pos} (ho : SPl X E C i o q) (hi : SE X E C ie di) (he : SE X E C e d)
    (hg : ∀ to ti, PE X o to → PE X ie ti → PG X (.Subscript o ie sp) (gSub to ti rSetL)) (hs : swapsWithSole [.Subscript o ie sp] e pos.line X.env = pure false := by rfl) (hw : swappedStores [.Subscript o ie sp] e X.env = pure none := by rfl) :
    SS X E C (.Assign [.Subscript o ie sp] e pos) (setD i q di d) := by
  obtain ⟨to, po, so⟩ := ho
  obtain ⟨ti, pi, si⟩ := hi
  obtain ⟨te, pe, se⟩ := he
  refine ⟨_, ps_asg pe (hg _ _ po pi) hs hw, fun G0 H0 G H σ ρ D I h => ?_⟩
  unfold setD at h
  refine se.useS I h fun r y G1 H1 e1 g1 I1 hr h1 => ?_
  refine so G0 H0 G1 H1 σ ρ _ I1 ?_
  cases eq : q ρ with
  | st => rw [eq] at h1; exact h1
  | ex c => rw [eq] at h1; exact fun G' H' g => h1 G' H' (I1.b.trans g)
  | ok p =>
    rw [eq] at h1
    intro v G2 H2 g2 hv
    have I2 := I1.grow g2
    have h2 : SOk X.K E C G0 H0 G2 D (bindS (di ρ) fun r2 => match r2.dat with
      | .int k => match stR k r with
        | some f => upE i p f ρ
        | none => .st
      | _ => .st) := SOk.up h1 g2.g
    refine si.useS I2 h2 fun r2 w G3 H3 e3 g3 I3 hr2 h3 => ?_
    have k2 := hr2.rp I3.s
    split at h3
    · rename_i k ek
      rw [ek] at k2
      cases k2
      cases ef : stR k r with
      | none => rw [ef] at h3; exact h3.elim
      | some f =>
        rw [ef] at h3
        obtain ⟨n, t, t', ei, em, h4⟩ := upE_out h3
        have g23 := g2.trans g3
        have g13 := g1.trans g23
        have hr3 := hr.grow g23
        obtain ⟨F, hF1, hF2⟩ := hr3.frF
        obtain ⟨a, xs, j, ev, ha, hj, I4⟩ := set_step (I.fresh g13 hF1) ei hr3.e hF2 ef em (fun v0 e0 => pathV_mono g3.h p _ _ (hv v0 e0))
        exact ⟨a, xs, k, j, ev, rfl, ha, hj, h4 σ G3 _ (Same.refl _) I4⟩
    · exact h3.elim

/-! ### x.pop(e), x.pop(), x.remove(e): of a list of known things -/
theorem erase_map {α β : Type} (f : α → β) : ∀ (l : List α) (j : Nat), (l.eraseIdx j).map f = (l.map f).eraseIdx j
  | [], j => by simp
  | a :: r, 0 => by simp
  | a :: r, j + 1 => by
    have ih := erase_map f r j
    simp [ih]
theorem pop_step {K : PySem.W.Frag} {G0 H0 G H : Hp} {σ : L2.St} {ρ : Env} {i j : Nat} {t : List PD} {d : PD} (I : EnvOk K G0 H0 G H σ ρ) (hi : ρ[i]? = some (.ow 0 t)) (hj : t[j]? = some d) : ∃ a xs y, σ.getD i none = some (.ref a) ∧ H a = some (.lst xs) ∧ xs.length = t.length ∧ xs[j]? = some y ∧ Rp K G y d ∧ EnvOk K G0 H0 G (upd H a (.lst (xs.eraseIdx j))) σ (ρ.set i (.ow 0 (t.eraseIdx j))) := by
  obtain ⟨x, x1, x2, x3, x4, x5, x6⟩ := I.r.at hi
  have x2' : (x.2 : List (V × PD)).map (fun y => y.2) = t := x2
  have hx : H x.1 = some (.lst ((x.2 : List (V × PD)).map fun y => y.1)) := x3.1
  have hk : ∀ y ∈ (x.2 : List (V × PD)), Rp K G y.1 y.2 := x3.2
  have hn : ∀ l : List (V × PD), l.Pairwise fun y z => ∀ a ∈ ATy.adr 0 y, a ∉ ATy.adr 0 z := fun l => List.pairwise_of_forall (fun _ _ a ha => nomatch ha)
  rw [← x2', List.getElem?_map] at hj
  cases e : (x.2 : List (V × PD))[j]? with
  | none => rw [e] at hj; cases hj
  | some y =>
    rw [e] at hj
    have ed : y.2 = d := by simpa using hj
    refine ⟨x.1, _, y.1, x1, hx, by rw [← x2']; simp, by rw [List.getElem?_map, e]; rfl, by rw [← ed]; exact hk y (List.mem_of_getElem? e), ?_⟩
    have := x6 ((x.1, (x.2 : List (V × PD)).eraseIdx j) : Addr × List (V × PD)) x.1 (.lst (((x.2 : List (V × PD)).map fun y => y.1).eraseIdx j)) rfl (by simp [ATy.adr]) ⟨by
      show upd H x.1 _ x.1 = some (.lst (((x.2 : List (V × PD)).eraseIdx j).map fun y => y.1))
      rw [upd_same, erase_map], fun z hz => hk z (List.mem_of_mem_eraseIdx hz)⟩ ⟨fun z _ => ⟨trivial, fun h => nomatch h⟩, hn _⟩ (fun b hb => by
      have hb' : b ∈ x.1 :: ((x.2 : List (V × PD)).eraseIdx j).flatMap (fun _ => ([] : List Addr)) := hb
      have eb : b = x.1 := by simpa using hb'
      rw [eb]
      exact .inl (by simp [ATy.adr]))
    have e3 : ATy.era 1 ((x.1, (x.2 : List (V × PD)).eraseIdx j) : Addr × List (V × PD)) = t.eraseIdx j := by
      show ((x.2 : List (V × PD)).eraseIdx j).map (fun y => y.2) = t.eraseIdx j
      rw [← x2', erase_map]
    rw [e3] at this
    exact this
abbrev Ty.l0 (u : Ty 1) : List PD := u
/-- what x.pop(k) takes: the place, the thing -/
def popAt (ρ : Env) (i : Nat) (r : R) : Option (Nat × PD × List PD) := match r.dat, ρ[i]? with
  | .int k, some (.ow 0 t) => if List.length t ≤ 100000 then match ixN (List.length t) k with
    | some j => match (Ty.l0 t)[j]? with
      | some d => some (j, d, (Ty.l0 t).eraseIdx j)
      | none => none
    | none => none else none
  | _, _ => none
theorem popAt_eq {ρ : Env} {i : Nat} {r : R} {j : Nat} {d : PD} {t' : List PD} (h : popAt ρ i r = some (j, d, t')) : ∃ (k : Int) (t : List PD), r.dat = .int k ∧ ρ[i]? = some (.ow 0 t) ∧ ixN t.length k = some j ∧ t[j]? = some d ∧ t' = t.eraseIdx j ∧ t.length ≤ 100000 := by
  unfold popAt at h
  split at h
  · rename_i k t e1 e2
    split at h
    · rename_i hl
      split at h
      · rename_i j' e3
        split at h
        · rename_i d' e4
          cases h
          exact ⟨k, t, e1, e2, e3, e4, rfl, hl⟩
        · cases h
      · cases h
    · cases h
  · cases h
/-- s = x.pop(e) -/
def asgPopD (s i : Nat) (e : ED) : SD := fun ρ => bindS (noX (e ρ)) fun r => match popAt ρ i r with
  | some (_, d, t') => .nx ((ρ.set i (.ow 0 t')).set s (.im d))
  | none => .st
theorem ss_asgPop {x y : Str} {e : Expr} {d : ED} {yp xp apos cpos pos : Pos} (s i : Nat) (hN : X.N.Nodup) (hy : Loc X.env.scope y) (he : SE X E C e d) (hs1 : X.N[s]? = some y := by rfl) (hf : X.fn y = true ∨ X.env.scope.names.lookup y = some .local := by first | exact .inl rfl | exact .inr rfl | assumption)
    (hNi : X.N[i]? = some x := by rfl) (hv : Vis X.env.scope x := by first | exact Or.inl rfl | exact Or.inr (Or.inl rfl) | exact Or.inr (Or.inr rfl)) (hd : (x == ("__debug__" : Str)) = false := by decide) (hcd : (x == ("__classdict__" : Str)) = false := by decide)
    (hst : starEach [e] X.env = (false, eval e X.env) :: starEach [] X.env := by rfl)
    (hp : ∀ to t, PE X (.Name x xp) to → PA X [e] t → PE X (.Call (.Attribute (.Name x xp) "pop" apos) [e] [] cpos) (tBM X.K "list" rPopAt to t)) (hs : swapsWith (.Call (.Attribute (.Name x xp) "pop" apos) [e] [] cpos) (some (.Name y yp)) pos.line X.env = pure false := by rfl) :
    SS X E C (.Assign [.Name y yp] (.Call (.Attribute (.Name x xp) "pop" apos) [e] [] cpos) pos) (asgPopD s i d) := by
  obtain ⟨te, pe, se⟩ := he
  refine ⟨_, ps_set hN hs1 hy (hp _ _ (pe_var hNi hv hd hcd) (pa_cons pe pa_nil hst)) hs hf, fun G0 H0 G H σ ρ D I h => ?_⟩
  unfold asgPopD at h
  -- what stands in x
  have ow : ∃ r j dd t', noX (d ρ) = .ok r ∧ popAt ρ i r = some (j, dd, t') := by
    cases ed : noX (d ρ) with
    | st => rw [ed] at h; exact h.elim
    | ex c => cases e2 : d ρ <;> rw [e2] at ed <;> cases ed
    | ok r =>
      rw [ed] at h
      cases ep : popAt ρ i r with
      | none => simp only [bindS, ep] at h; exact h.elim
      | some w => obtain ⟨j, dd, t'⟩ := w; exact ⟨r, j, dd, t', rfl, ep⟩
  obtain ⟨r, j, dd, t', ed, ep⟩ := ow
  obtain ⟨k, t, k1, k2, k3, k4, k5, k6⟩ := popAt_eq ep
  obtain ⟨a0, xs0, y0, b1, b2, _⟩ := pop_step I k2 k4
  refine ⟨_, getD_some b1, .inl ⟨rfl, _, SqL.of b2⟩, ?_⟩
  show te σ H _
  refine (sim_nx se).useS I h fun r' v G1 H1 e1 g1 I1 hr h1 => ?_
  have er : r' = r := by rw [ed] at e1; cases e1; rfl
  subst er
  have kv := hr.rp I1.s
  rw [k1] at kv
  cases kv
  obtain ⟨a, xs, w, c1, c2, c3, c4, c5, c6⟩ := pop_step I1 k2 k4
  rw [b1] at c1
  cases c1
  obtain ⟨q1, q2, q3, q4⟩ := ixN_seq k3
  refine ⟨a0, xs, k, j, w, rfl, rfl, c2, by omega, by omega, by rw [c3]; exact q1, c4, ?_⟩
  simp only [ep] at h1
  rw [k5] at h1
  exact h1 _ G1 _ (Same.refl _) (c6.setIm s c5)
/-- y.append(x.pop(e)), y and x two owned lists of known things -/
def appPopD (o i : Nat) (e : ED) : SD := fun ρ => bindS (noX (e ρ)) fun r => match popAt ρ i r with
  | some (_, d, t') => match (ρ.set i (.ow 0 t'))[o]? with
    | some (.ow 0 u) => if List.length u ≤ 100000 ∧ o ≠ i then .nx ((ρ.set i (.ow 0 t')).set o (.ow 0 ((Ty.l0 u) ++ [d]))) else .st
    | _ => .st
  | none => .st
theorem ss_appPop {x y : Str} {e : Expr} {d : ED} {yp xp apos cpos apos2 cpos2 pos : Pos} (o i : Nat) (he : SE X E C e d) (hNo : X.N[o]? = some y := by rfl) (hvo : Vis X.env.scope y := by first | exact Or.inl rfl | exact Or.inr (Or.inl rfl) | exact Or.inr (Or.inr rfl)) (hdo : (y == ("__debug__" : Str)) = false := by decide) (hcdo : (y == ("__classdict__" : Str)) = false := by decide)
    (hNi : X.N[i]? = some x := by rfl) (hv : Vis X.env.scope x := by first | exact Or.inl rfl | exact Or.inr (Or.inl rfl) | exact Or.inr (Or.inr rfl)) (hd : (x == ("__debug__" : Str)) = false := by decide) (hcd : (x == ("__classdict__" : Str)) = false := by decide)
    (hst : starEach [e] X.env = (false, eval e X.env) :: starEach [] X.env := by rfl)
    (hst2 : starEach [.Call (.Attribute (.Name x xp) "pop" apos) [e] [] cpos] X.env = (false, eval (.Call (.Attribute (.Name x xp) "pop" apos) [e] [] cpos) X.env) :: starEach [] X.env := by rfl)
    (hp : ∀ to t, PE X (.Name x xp) to → PA X [e] t → PE X (.Call (.Attribute (.Name x xp) "pop" apos) [e] [] cpos) (tBM X.K "list" rPopAt to t))
    (hp2 : ∀ to t, PE X (.Name y yp) to → PA X [.Call (.Attribute (.Name x xp) "pop" apos) [e] [] cpos] t → PE X (.Call (.Attribute (.Name y yp) "append" apos2) [.Call (.Attribute (.Name x xp) "pop" apos) [e] [] cpos] [] cpos2) (tBM X.K "list" rAppend to t))
    (hs : swapsWith (.Call (.Attribute (.Name y yp) "append" apos2) [.Call (.Attribute (.Name x xp) "pop" apos) [e] [] cpos] [] cpos2) none pos.line X.env = pure false := by rfl) :
    SS X E C (.Expr (.Call (.Attribute (.Name y yp) "append" apos2) [.Call (.Attribute (.Name x xp) "pop" apos) [e] [] cpos] [] cpos2) pos) (appPopD o i d) := by
  obtain ⟨te, pe, se⟩ := he
  refine ⟨_, ps_expr (hp2 _ _ (pe_var hNo hvo hdo hcdo) (pa_cons (hp _ _ (pe_var hNi hv hd hcd) (pa_cons pe pa_nil hst)) pa_nil hst2)) hs, fun G0 H0 G H σ ρ D I h => ?_⟩
  unfold appPopD at h
  have ow : ∃ r j dd t', noX (d ρ) = .ok r ∧ popAt ρ i r = some (j, dd, t') := by
    cases ed : noX (d ρ) with
    | st => rw [ed] at h; exact h.elim
    | ex c => cases e2 : d ρ <;> rw [e2] at ed <;> cases ed
    | ok r =>
      rw [ed] at h
      cases ep : popAt ρ i r with
      | none => simp only [bindS, ep] at h; exact h.elim
      | some w => obtain ⟨j, dd, t'⟩ := w; exact ⟨r, j, dd, t', rfl, ep⟩
  obtain ⟨r, j, dd, t', ed, ep⟩ := ow
  obtain ⟨k, t, k1, k2, k3, k4, k5, k6⟩ := popAt_eq ep
  have ow2 : ∃ u, (ρ.set i (.ow 0 t'))[o]? = some (.ow 0 u) ∧ List.length u ≤ 100000 ∧ o ≠ i ∧ SOk X.K E C G0 H0 G D (.nx ((ρ.set i (.ow 0 t')).set o (.ow 0 ((Ty.l0 u) ++ [dd])))) := by
    have h' := h
    rw [ed] at h'
    simp only [bindS, ep] at h'
    split at h'
    · rename_i u eu
      split at h'
      · rename_i c
        exact ⟨u, eu, c.1, c.2, h'⟩
      · exact h'.elim
    · exact h'.elim
  obtain ⟨u, u1, u2, u3, hfin⟩ := ow2
  have uρ : ρ[o]? = some (.ow 0 u) := by rw [List.getElem?_set_ne (Ne.symm u3)] at u1; exact u1
  obtain ⟨z, z1, z2, z3, z4, z5, z6⟩ := I.r.at uρ
  obtain ⟨a0, xs0, y0, b1, b2, _⟩ := pop_step I k2 k4
  refine ⟨_, getD_some z1, .inl ⟨rfl, _, SqL.of z3.1⟩, ?_⟩
  refine ⟨_, getD_some b1, .inl ⟨rfl, _, SqL.of b2⟩, ?_⟩
  show te σ H _
  refine (sim_nx se).useS I h fun r' v G1 H1 e1 g1 I1 hr h1 => ?_
  have er : r' = r := by rw [ed] at e1; cases e1; rfl
  subst er
  have kv := hr.rp I1.s
  rw [k1] at kv
  cases kv
  obtain ⟨a, xs, w, c1, c2, c3, c4, c5, c6⟩ := pop_step I1 k2 k4
  rw [b1] at c1
  cases c1
  obtain ⟨q1, q2, q3, q4⟩ := ixN_seq k3
  refine ⟨a0, xs, k, j, w, rfl, rfl, c2, by omega, by omega, by rw [c3]; exact q1, c4, ?_⟩
  rw [← k5] at c6
  obtain ⟨a2, xs2, ev2, ha2, hl2, I3⟩ := app_step (r := .im dd) (f := apF dd) (p := []) (n := 0) (t' := ((Ty.l0 u) ++ [dd] : List PD)) c6.r u1 (show ROk X.K hpE G1 _ (.im dd) w from c5) (fun m u e => by cases e) rfl (by show apF dd 0 u = _; simp only [apF]; rw [if_pos u2]; rfl) (fun v0 e0 => by rw [z1] at e0; cases e0; rfl)
  exact ⟨a2, xs2, w, ev2, rfl, ha2, hl2, hfin _ G1 _ g1.g I3⟩
/-- x.remove(e), x an owned list of ints -/
def remD (i : Nat) (e : ED) : SD := fun ρ => bindS (noX (e ρ)) fun r => match r.dat, ρ[i]? with
  | .int k, some (.ow 0 t) => match intsOf t with
    | some ns => if k ∈ ns then .nx (ρ.set i (.ow 0 ((ns.erase k).map PyData.int))) else .st
    | none => .st
  | _, _ => .st
theorem erase_ix : ∀ (ns : List Int) (k : Int), k ∈ ns → ∃ j, ns[j]? = some k ∧ (∀ m, m < j → ns[m]? ≠ some k) ∧ ns.erase k = ns.eraseIdx j
  | [], k, h => nomatch h
  | n :: ns, k, h => by
    by_cases c : n = k
    · subst c
      exact ⟨0, rfl, fun m hm => absurd hm (Nat.not_lt_zero _), by simp⟩
    · have hm : k ∈ ns := by
        rcases List.mem_cons.mp h with e | e
        · exact absurd e.symm c
        · exact e
      obtain ⟨j, j1, j2, j3⟩ := erase_ix ns k hm
      refine ⟨j + 1, by simpa using j1, fun m hm => ?_, ?_⟩
      · cases m with
        | zero => simpa using c
        | succ m => simpa using j2 m (by omega)
      · rw [List.erase_cons_tail (by simpa using c), j3]
        rfl
theorem ss_rem {x : Str} {e : Expr} {d : ED} {xp apos cpos pos : Pos} (i : Nat) (he : SE X E C e d) (hNi : X.N[i]? = some x := by rfl) (hv : Vis X.env.scope x := by first | exact Or.inl rfl | exact Or.inr (Or.inl rfl) | exact Or.inr (Or.inr rfl)) (hd : (x == ("__debug__" : Str)) = false := by decide) (hcd : (x == ("__classdict__" : Str)) = false := by decide)
    (hst : starEach [e] X.env = (false, eval e X.env) :: starEach [] X.env := by rfl)
    (hp : ∀ to t, PE X (.Name x xp) to → PA X [e] t → PE X (.Call (.Attribute (.Name x xp) "remove" apos) [e] [] cpos) (tBM X.K "list" rRemI to t)) (hs : swapsWith (.Call (.Attribute (.Name x xp) "remove" apos) [e] [] cpos) none pos.line X.env = pure false := by rfl) :
    SS X E C (.Expr (.Call (.Attribute (.Name x xp) "remove" apos) [e] [] cpos) pos) (remD i d) := by
  obtain ⟨te, pe, se⟩ := he
  refine ⟨_, ps_expr (hp _ _ (pe_var hNi hv hd hcd) (pa_cons pe pa_nil hst)) hs, fun G0 H0 G H σ ρ D I h => ?_⟩
  unfold remD at h
  have ow : ∃ (r : R) (k : Int) (ns : List Int), noX (d ρ) = .ok r ∧ r.dat = .int k ∧ ρ[i]? = some (.ow 0 (ns.map PyData.int)) ∧ k ∈ ns ∧ SOk X.K E C G0 H0 G D (.nx (ρ.set i (.ow 0 ((ns.erase k).map PyData.int)))) := by
    cases ed : noX (d ρ) with
    | st => rw [ed] at h; exact h.elim
    | ex c => cases e2 : d ρ <;> rw [e2] at ed <;> cases ed
    | ok r =>
      rw [ed] at h
      simp only [bindS] at h
      split at h
      · rename_i k t e1 e2
        split at h
        · rename_i ns e3
          split at h
          · rename_i c
            exact ⟨r, k, ns, rfl, e1, e2.trans (congrArg (fun l : List PD => some (Ent.ow 0 l)) (intsOf_eq (ds := t) e3)), c, h⟩
          · exact h.elim
        · exact h.elim
      · exact h.elim
  obtain ⟨r, k, ns, ed, ek, ei, hk, hfin⟩ := ow
  obtain ⟨j, j1, j2, j3⟩ := erase_ix ns k hk
  have jd : (ns.map PyData.int)[j]? = some (.int k) := by rw [List.getElem?_map, j1]; rfl
  obtain ⟨a0, xs0, y0, b1, b2, _⟩ := pop_step I ei jd
  refine ⟨_, getD_some b1, .inl ⟨rfl, _, SqL.of b2⟩, ?_⟩
  show te σ H _
  refine (sim_nx se).useS I h fun r' v G1 H1 e1 g1 I1 hr h1 => ?_
  have er : r' = r := by rw [ed] at e1; cases e1; rfl
  subst er
  have kv := hr.rp I1.s
  rw [ek] at kv
  cases kv
  obtain ⟨z, z1, z2, z3, z4, z5, z6⟩ := I1.r.at ei
  obtain ⟨a, xs, w, c1, c2, c3, c4, c5, c6⟩ := pop_step I1 ei jd
  rw [b1] at c1
  cases c1
  have ex : xs = ns.map V.int := by
    have ok2 : RpA X.K G1 xs (ns.map PyData.int) := by
      obtain ⟨a, vs, q1, q2, q3⟩ := ROk.kids (r := .ro 0 (ns.map PyData.int)) (H0 := hpE) I1.s ⟨z, z2, rfl, z3⟩ rfl
      rw [b1] at z1
      have e0 : ATy.val 1 z = V.ref a0 := (Option.some.inj z1).symm
      rw [q1] at e0
      cases e0
      rw [c2] at q2
      cases q2
      exact q3
    exact ok2.ints
  subst ex
  refine ⟨a0, ns, k, j, rfl, rfl, c2, j1, j2, ?_⟩
  have e9 : (ns.map PyData.int).eraseIdx j = (ns.erase k).map PyData.int := by rw [j3, erase_map]
  have e10 : (ns.map V.int).eraseIdx j = (ns.erase k).map V.int := by rw [j3, erase_map]
  rw [e10] at c6
  have c7 := Eq.mp (congrArg (fun l : List PD => EnvOk X.K G0 H0 G1 (upd H1 a0 (.lst ((ns.erase k).map V.int))) σ (ρ.set i (.ow 0 l))) e9) c6
  rw [← j3]
  exact hfin σ G1 _ g1.g c7
end
end Z

/-! ## ZC -/
set_option Elab.async false
set_option linter.all false
set_option maxRecDepth 100000
set_option maxHeartbeats 2000000
namespace Z
open PySem PySem.Spec PyProof.Rows L2
theorem tgOf_okH {K : PySem.W.Frag} {G0 H0 G Hh H : Hp} {Q : L2.St → Hp → Prop} {σ : L2.St} {ρ : Env} {v : V} {d : PD} (k : Tg) (I : EnvOk K G0 H0 G Hh σ ρ) (s : Same G H) (r : Rp K G v d) (h : match bindT k d ρ with
    | some ρ' => ∀ σ', EnvOk K G0 H0 G Hh σ' ρ' → (∀ us, (∀ i ∈ slotsT k, i ∈ us) → wipe σ' us = wipe σ us) → Q σ' H
    | none => False) : tgOf K k v σ H Q := by
  cases k with
  | nm i => exact h _ (I.setIm i r) fun us hu => wipe_set (hu i List.mem_cons_self)
  | tp is =>
    unfold bindT at h
    cases d with
    | tuple ds =>
      by_cases c : ds.length = is.length
      · simp only [if_pos c] at h
        cases r with
        | tup h1 h2 =>
          refine ⟨_, _, rfl, SqT.of (s _ _ h1), by rw [h2.length]; exact c, ?_⟩
          have key : ∀ (is : List Nat) (σ : L2.St) (ρ : Env) (vs : List V) (ds : List PD) (Q : L2.St → Hp → Prop), EnvOk K G0 H0 G Hh σ ρ → RpA K G vs ds → ds.length = is.length →
              (∀ σ', EnvOk K G0 H0 G Hh σ' (setAll ρ (is.zip ds)) → (∀ us, (∀ i ∈ is, i ∈ us) → wipe σ' us = wipe σ us) → Q σ' H) → gsOf is vs σ H Q := by
            intro is
            induction is with
            | nil =>
              intro σ ρ vs ds Q I r hl h
              cases ds with
              | nil => cases r; exact ⟨rfl, h σ I fun _ _ => rfl⟩
              | cons d ds => simp at hl
            | cons i is ih =>
              intro σ ρ vs ds Q I r hl h
              cases ds with
              | nil => simp at hl
              | cons d ds =>
                cases r with
                | cons h1 h2 =>
                  refine ⟨_, _, rfl, ih _ (ρ.set i (.im d)) _ ds _ (I.setIm i h1) h2 (by simpa using hl) fun σ' I' hw => h σ' I' fun us hu => ?_⟩
                  rw [hw us fun j hj => hu j (List.mem_cons_of_mem _ hj)]
                  exact wipe_set (hu i List.mem_cons_self)
          exact key is σ ρ _ _ Q I h2 c h
      · simp only [if_neg c] at h
    | _ => exact h.elim
theorem wipe_wipe : ∀ (us : List Nat) (σ : L2.St), wipe (wipe σ us) us = wipe σ us := by
  intro us
  induction us with
  | nil => intro σ; rfl
  | cons u us ih =>
    intro σ
    show (wipe ((wipe σ us).set u none) us).set u none = (wipe σ us).set u none
    by_cases hm : u ∈ us
    · rw [wipe_set hm, ih]
    · have key2 : ∀ (vs : List Nat) (σ : L2.St) (o : Option V) (i : Nat), i ∉ vs → wipe (σ.set i o) vs = (wipe σ vs).set i o := by
        intro vs
        induction vs with
        | nil => intro σ o i _; rfl
        | cons u us ih =>
          intro σ o i hn
          simp only [List.mem_cons, not_or] at hn
          show (wipe (σ.set i o) us).set u none = ((wipe σ us).set u none).set i o
          rw [ih σ o i hn.2, List.set_comm]
          exact fun e => hn.1 e
      rw [key2 us _ none u hm, ih, List.set_set]
/-- the loop that fills the list at D -/
theorem lc_loop {K : PySem.W.Frag} {C : CM} {J : It} {ds : List PD} {k : Tg} {tt : TT} {t : TD} {te : TE} {e : ED} {vs : List Nat} {G0 H0 Gb Hb Gs H : Hp} {σ : L2.St} {ρ : Env} {D : Addr} {rest out : List PD} {acc : List V} {Fin : Hp → Prop}
    (hv : ∀ i ∈ slotsT k, i ∈ vs) (st : SimT K E0 C tt t) (se : SimE K E0 C te e) (Ib : EnvOk K G0 H0 Gb Hb σ ρ) (hb : Hb D = none) (wk : Walks K J Gb ds (fun H2 => Same Hb H2)) (hr : lcL k t e (wipeE ρ vs) ds = .ok rest)
    (g : Grow Gb Hb Gs (hide H D)) (nG : Gs D = none) (hacc : H D = some (.lst acc)) (rv : RpA K Gs acc out) (hlen : out.length + rest.length ≤ 100000)
    (fin : ∀ G' H' acc', Grow Gb Hb G' (hide H' D) → G' D = none → H' D = some (.lst acc') → RpA K G' acc' (out ++ rest) → Fin H') :
    ∃ W : Nat → Nat → Hp → Prop, (∃ m, W 0 m H) ∧ ∀ i m H, W i m H → (J.stop i H ∧ Fin H) ∨ (J.go i H ∧ ∃ Nx : Hp → Prop, (∀ H', Nx H' → ∃ m', m' < m ∧ W (i + 1) m' H') ∧ ∀ x H', J.yld i H x H' → tgOf K k x (wipe σ vs) H' fun σ2 H2 => wipe σ2 vs = wipe σ vs ∧ tt σ2 H2 fun b H3 =>
      if b = true then te σ2 H3 fun y H4 => ∃ acc, H4 D = some (.lst acc) ∧ acc.length < sizeLine ∧ Nx (upd H4 D (.lst (acc ++ [y]))) else Nx H3) := by
  refine ⟨fun i m H2 => ∃ G2 acc' out' rest', Grow Gb Hb G2 (hide H2 D) ∧ G2 D = none ∧ H2 D = some (.lst acc') ∧ RpA K G2 acc' out' ∧ m = ds.length - i ∧ i ≤ ds.length ∧ lcL k t e (wipeE ρ vs) (ds.drop i) = .ok rest' ∧ out ++ rest = out' ++ rest',
    ⟨ds.length, Gs, acc, out, rest, g, nG, hacc, rv, rfl, Nat.zero_le _, hr, rfl⟩, ?_⟩
  rintro i m H2 ⟨G2, acc, out', rest', g2, nG, hacc, rv, rfl, hi, hr, hy⟩
  have gu : Grow G2 (hide H2 D) G2 H2 := Grow.unhide g2.s
  have g12 : Grow Gb Hb G2 H2 := g2.trans gu
  have I2 := Ib.grow g12
  by_cases hlt : i < ds.length
  · have hd : ds[i]? = some ds[i] := List.getElem?_eq_getElem hlt
    obtain ⟨go, yl⟩ := (wk i H2 g12.h).2 _ hd
    refine .inr ⟨go, fun H3 => ∃ G3 acc' out' rest', Grow Gb Hb G3 (hide H3 D) ∧ G3 D = none ∧ H3 D = some (.lst acc') ∧ RpA K G3 acc' out' ∧ lcL k t e (wipeE ρ vs) (ds.drop (i + 1)) = .ok rest' ∧ out ++ rest = out' ++ rest', fun H3 ⟨G3, acc, out, rest, a1, a2, a3, a4, a5, a6⟩ => ⟨ds.length - (i + 1), by omega, G3, acc, out, rest, a1, a2, a3, a4, rfl, hlt, a5, a6⟩, fun v H3 hyl => ?_⟩
    obtain ⟨G3, g3, rd⟩ := yl v H3 hyl G2 g12.g I2.s
    have I3 := I2.grow g3
    refine tgOf_ok k (I3.wipe vs) rd ?_
    rw [List.drop_eq_getElem_cons hlt] at hr
    unfold lcL at hr
    cases eb : bindT k ds[i] (wipeE ρ vs) with
    | none => simp only [eb] at hr; cases hr
    | some ρ1 =>
      simp only [eb] at hr
      intro σ3 I4 hw
      refine ⟨by rw [hw vs hv, wipe_wipe], ?_⟩
      refine st G0 H0 G3 H3 σ3 ρ1 _ I4 ?_
      cases et : t ρ1 with
      | ex c => simp [et, noX, Out.bind] at hr
      | st => simp [et, noX, Out.bind] at hr
      | ok b =>
        simp only [et, noX, Out.bind] at hr
        intro G4 H4 g4
        have I5 := I4.grow g4
        have g24 := g3.trans g4
        cases b with
        | false =>
          obtain ⟨r1, r2⟩ := g2.rehide g24 hb hacc trivial nG
          exact ⟨G4, acc, out', rest', r1, r2, g24.h _ _ hacc, rv.up g24.g, hr, hy⟩
        | true =>
          simp only [if_true] at hr
          refine se G0 H0 G4 H4 σ3 ρ1 _ I5 ?_
          cases ee : e ρ1 with
          | ex c => simp [ee] at hr
          | st => simp [ee] at hr
          | ok r =>
            simp only [ee] at hr
            have fin2 : ∀ (y : PD) (v : V) G5 H5, r.fz = .im y → Grow G4 H4 G5 H5 → Rp K G5 v y → ∃ acc, H5 D = some (.lst acc) ∧ acc.length < sizeLine ∧ ∃ G3 acc' out' rest', Grow Gb Hb G3 (hide (upd H5 D (.lst (acc ++ [v]))) D) ∧ G3 D = none ∧ (upd H5 D (.lst (acc ++ [v]))) D = some (.lst acc') ∧ RpA K G3 acc' out' ∧ lcL k t e (wipeE ρ vs) (ds.drop (i + 1)) = .ok rest' ∧ out ++ rest = out' ++ rest' := by
              intro y v G5 H5 er g5 ry
              simp only [er] at hr
              have g25 := g24.trans g5
              obtain ⟨r1, r2⟩ := g2.rehide g25 hb hacc trivial nG
              cases el : lcL k t e (wipeE ρ vs) (ds.drop (i + 1)) with
              | ex c => simp [el] at hr
              | st => simp [el] at hr
              | ok rest2 =>
                simp only [el] at hr
                have er2 : y :: rest2 = rest' := by injection hr
                have hl := rv.length
                have hl2 : out'.length ≤ out.length + rest.length := by rw [← List.length_append, hy]; simp
                refine ⟨acc, g25.h _ _ hacc, lt_line (by omega), G5, acc ++ [v], out' ++ [y], rest2, by rw [hide_upd]; exact r1, r2, upd_same, (rv.up g25.g).snoc ry, rfl, by rw [hy, ← er2]; simp⟩
            intro v G5 H5 g5 hr5
            cases r with
            | im y => exact fin2 y v G5 H5 rfl g5 hr5
            | ro n u => simp [R.fz] at hr
            | fr n u =>
              obtain ⟨G6, s6, g6, r6⟩ := hr5.freeze g5.s g5
              exact fin2 _ v G6 H5 rfl g6 r6
  · have e2 : i = ds.length := by omega
    refine .inl ⟨(wk i H2 g12.h).1 (by omega), ?_⟩
    rw [e2, List.drop_length] at hr
    have e3 : rest' = [] := by cases hr; rfl
    subst e3
    rw [List.append_nil] at hy
    rw [← hy] at rv
    exact fin G2 H2 acc g2 nG hacc rv

/-! ### [e for a in s1 if t1 for b in s2 if t2] -/
def lc2L (k1 : Tg) (t1 : TD) (s2 : LD) (k2 : Tg) (t2 : TD) (e : ED) (vs1 : List Nat) (ρ : Env) : List PD → Out (List PD)
  | [] => .ok []
  | d :: ds => match bindT k1 d ρ with
    | none => .st
    | some ρ1 => (noX (t1 ρ1)).bind fun c => if c = true then (noX (s2 ρ1)).bind fun ds2 => (lcL k2 t2 e (wipeE ρ1 vs1) ds2).bind fun ys => (lc2L k1 t1 s2 k2 t2 e vs1 ρ ds).bind fun zs => .ok (ys ++ zs)
      else lc2L k1 t1 s2 k2 t2 e vs1 ρ ds
def lc2D (s : LD) (vs : List Nat) (k1 : Tg) (t1 : TD) (s2 : LD) (vs1 : List Nat) (k2 : Tg) (t2 : TD) (e : ED) : ED := fun ρ => (s ρ).bind fun ds => (noX (lc2L k1 t1 s2 k2 t2 e vs1 (wipeE ρ vs) ds)).bind fun ys => if ys.length ≤ 100000 then .ok (.fr 0 ys) else .st
section
variable {X : Cx} {E : XK} {C : CM}
theorem blk_i {scope : Scope} {tg e : Expr} {s : LD} (h : ∀ b : Bk, SI (b.x X scope) E C tg e s) : ∃ wi, (∀ b : Bk, PI (b.x X scope) tg e wi) ∧ ∀ G0 H0 G H σ ρ (Q : It → Hp → Prop), EnvOk X.K G0 H0 G H σ ρ → (match s ρ with
    | .ok ds => ∀ J G' H', Grow G H G' H' → Walks X.K J G' ds (fun H2 => Same G' H2) → Q J H'
    | .ex c => ∀ G' H', Grow G H G' H' → E (C c) none H'
    | .st => False) → wi σ H Q := by
  let te : Bk → TI := fun b => (h b).p.choose
  have h1 : ∀ b, PI (b.x X scope) tg e (te b) := fun b => (h b).p.choose_spec.1
  have h2 := fun b => (h b).p.choose_spec.2
  exact ⟨fun σ H Q => ∀ b, te b σ H Q, fun b => ⟨fun pins s σ H Q I q => (h1 b).run pins s σ H Q I (q b)⟩, fun G0 H0 G H σ ρ Q I q b => h2 b G0 H0 G H σ ρ Q I q⟩
theorem sim_lc2 {K : PySem.W.Frag} {wi wi1 : TI} {s s2 : LD} {k1 k2 : Tg} {tt1 tt2 : TT} {t1 t2 : TD} {te : TE} {e : ED} {vs vs1 : List Nat} (hv : ∀ i ∈ slotsT k1, i ∈ vs) (hv1 : ∀ i ∈ slotsT k2, i ∈ vs1)
    (sw : ∀ G0 H0 G H σ ρ (Q : It → Hp → Prop), EnvOk K G0 H0 G H σ ρ → (match s ρ with
      | .ok ds => ∀ J G' H', Grow G H G' H' → Walks K J G' ds (fun H2 => Same H' H2) → Q J H'
      | .ex c => ∀ G' H', Grow G H G' H' → E (C c) none H'
      | .st => False) → wi σ H Q)
    (sw1 : ∀ G0 H0 G H σ ρ (Q : It → Hp → Prop), EnvOk K G0 H0 G H σ ρ → (match s2 ρ with
      | .ok ds => ∀ J G' H', Grow G H G' H' → Walks K J G' ds (fun H2 => Same G' H2) → Q J H'
      | .ex c => ∀ G' H', Grow G H G' H' → E0 (C c) none H'
      | .st => False) → wi1 σ H Q)
    (st1 : SimT K E0 C tt1 t1) (st2 : SimT K E0 C tt2 t2) (se : SimE K E0 C te e) : SimE K E C (tLc2 wi (tgOf K k1) tt1 wi1 (tgOf K k2) tt2 te vs vs1) (lc2D s vs k1 t1 s2 vs1 k2 t2 e) := by
  intro G0 H0 G H σ ρ Q I h
  unfold lc2D at h
  refine sw G0 H0 G H σ ρ _ I ?_
  cases es : s ρ with
  | st => rw [es] at h; exact h
  | ex c => rw [es] at h; exact h
  | ok ds =>
    rw [es] at h
    intro J G1 H1 g1 wk D hD
    have I1 := I.grow g1
    have q : OOk K E C G H Q ((noX (lc2L k1 t1 s2 k2 t2 e vs1 (wipeE ρ vs) ds)).bind fun ys => if ys.length ≤ 100000 then .ok (.fr 0 ys) else .st) := h
    obtain ⟨ys, ey, hlen, hfin⟩ : ∃ ys, lc2L k1 t1 s2 k2 t2 e vs1 (wipeE ρ vs) ds = .ok ys ∧ ys.length ≤ 100000 ∧ OOk K E C G H Q (.ok (.fr 0 ys)) := by
      cases ey : lc2L k1 t1 s2 k2 t2 e vs1 (wipeE ρ vs) ds with
      | ok ys =>
        rw [ey] at q
        by_cases c : ys.length ≤ 100000
        · exact ⟨ys, rfl, c, by have q' : OOk K E C G H Q (if ys.length ≤ 100000 then .ok (.fr 0 ys) else .st) := q; rw [if_pos c] at q'; exact q'⟩
        · have q' : OOk K E C G H Q (if ys.length ≤ 100000 then .ok (.fr 0 ys) else .st) := q
          rw [if_neg c] at q'
          exact q'.elim
      | ex c => rw [ey] at q; exact q.elim
      | st => rw [ey] at q; exact q.elim
    have s1 : Same H1 (hide (upd H1 D (.lst [])) D) := by rw [hide_upd]; exact same_to_hide (Same.refl _) hD
    have gs : Grow G1 H1 G1 (hide (upd H1 D (.lst [])) D) := ⟨Same.refl _, s1, I1.s.trans s1, fun _ _ _ _ h => h⟩
    refine ⟨fun i m H2 => ∃ G2 acc out rest, Grow G1 H1 G2 (hide H2 D) ∧ G2 D = none ∧ H2 D = some (.lst acc) ∧ RpA K G2 acc out ∧ m = ds.length - i ∧ i ≤ ds.length ∧ lc2L k1 t1 s2 k2 t2 e vs1 (wipeE ρ vs) (ds.drop i) = .ok rest ∧ ys = out ++ rest,
      ⟨ds.length, G1, [], [], ys, gs, I1.s.free hD, upd_same, .nil, rfl, Nat.zero_le _, ey, rfl⟩, ?_⟩
    rintro i m H2 ⟨G2, acc, out, rest, g2, nG, hacc, rv, rfl, hi, hr, hy⟩
    have gu : Grow G2 (hide H2 D) G2 H2 := Grow.unhide g2.s
    have g12 : Grow G1 H1 G2 H2 := g2.trans gu
    have I2 := I1.grow g12
    by_cases hlt : i < ds.length
    · have hd : ds[i]? = some ds[i] := List.getElem?_eq_getElem hlt
      obtain ⟨go, yl⟩ := (wk i H2 g12.h).2 _ hd
      refine .inr ⟨go, fun H3 => ∃ G3 acc out rest, Grow G1 H1 G3 (hide H3 D) ∧ G3 D = none ∧ H3 D = some (.lst acc) ∧ RpA K G3 acc out ∧ lc2L k1 t1 s2 k2 t2 e vs1 (wipeE ρ vs) (ds.drop (i + 1)) = .ok rest ∧ ys = out ++ rest, fun H3 ⟨G3, acc, out, rest, a1, a2, a3, a4, a5, a6⟩ => ⟨ds.length - (i + 1), by omega, G3, acc, out, rest, a1, a2, a3, a4, rfl, hlt, a5, a6⟩, fun v H3 hyl => ?_⟩
      obtain ⟨G3, g3, rd⟩ := yl v H3 hyl G2 g12.g I2.s
      obtain ⟨r3, nG3⟩ := g2.rehide g3 hD hacc trivial nG
      have I3 : EnvOk K G0 H0 G3 (hide H3 D) σ ρ := I1.grow r3
      refine tgOf_okH k1 (I3.wipe vs) (g3.s) rd ?_
      rw [List.drop_eq_getElem_cons hlt] at hr
      unfold lc2L at hr
      cases eb : bindT k1 ds[i] (wipeE ρ vs) with
      | none => simp only [eb] at hr; cases hr
      | some ρ1 =>
        simp only [eb] at hr
        intro σ3 I4 hw
        refine ⟨by rw [hw vs hv, wipe_wipe], ?_⟩
        have acc3 := g3.h _ _ hacc
        have gu3 : Grow G3 (hide H3 D) G3 H3 := Grow.unhide I4.s
        refine st1 G0 H0 G3 H3 σ3 ρ1 _ (I4.grow gu3) ?_
        cases et : t1 ρ1 with
        | ex c => simp [et, noX, Out.bind] at hr
        | st => simp [et, noX, Out.bind] at hr
        | ok b =>
          simp only [et, noX, Out.bind] at hr
          intro G4 H4 g4
          obtain ⟨r4, nG4⟩ := (Grow.refl I4.s).rehide g4 hide_same acc3 trivial nG3
          have I5 := I4.grow r4
          have acc4 := g4.h _ _ acc3
          cases b with
          | false => exact ⟨G4, acc, out, rest, r3.trans r4, nG4, acc4, rv.up (g3.g.trans g4.g), hr, hy⟩
          | true =>
            simp only [if_true] at hr
            have gu4 : Grow G4 (hide H4 D) G4 H4 := Grow.unhide I5.s
            refine sw1 G0 H0 G4 H4 σ3 ρ1 _ (I5.grow gu4) ?_
            cases e2 : s2 ρ1 with
            | ex c => simp [e2] at hr
            | st => simp [e2] at hr
            | ok ds2 =>
              simp only [e2] at hr
              intro J1 G5 H5 g5 wk1
              obtain ⟨r5, nG5⟩ := (Grow.refl I5.s).rehide g5 hide_same acc4 trivial nG4
              have I6 := I5.grow r5
              have acc5 := g5.h _ _ acc4
              cases el : lcL k2 t2 e (wipeE ρ1 vs1) ds2 with
              | ex c => simp [el] at hr
              | st => simp [el] at hr
              | ok ys1 =>
                simp only [el] at hr
                cases er : lc2L k1 t1 s2 k2 t2 e vs1 (wipeE ρ vs) (ds.drop (i + 1)) with
                | ex c => simp [er] at hr
                | st => simp [er] at hr
                | ok zs =>
                  simp only [er] at hr
                  have e3 : ys1 ++ zs = rest := by injection hr
                  have hle : out.length + ys1.length ≤ 100000 := by
                    have : ys.length = out.length + (ys1.length + zs.length) := by rw [hy, ← e3]; simp
                    omega
                  have rr := (r3.trans r4).trans r5
                  refine lc_loop hv1 st2 se I6 hide_same (fun i H hs => wk1 i H (r5.s.trans hs)) el (Grow.refl I6.s) nG5 acc5 (rv.up ((g3.g.trans g4.g).trans g5.g)) hle fun G' H' acc' a1 a2 a3 a4 => ?_
                  exact ⟨G', acc', out ++ ys1, zs, rr.trans a1, a2, a3, a4, rfl, by rw [hy, ← e3]; simp⟩
    · have e2 : i = ds.length := by omega
      refine .inl ⟨(wk i H2 g12.h).1 (by omega), ?_⟩
      rw [e2, List.drop_length] at hr
      have e3 : rest = [] := by cases hr; rfl
      subst e3
      rw [List.append_nil] at hy
      subst hy
      exact hfin _ G2 H2 (g1.trans g12) (fresh_acc rv hacc (g1.h.free hD) nG)
theorem se_lc2 {elt tg iter tg1 iter1 : Expr} {ifs ifs1 : List Expr} {scope : Scope} {own : List (Str × Nat)} {vs1 : List Nat} {pos : Pos} {s s2 : LD} {k1 k2 : Tg} {t1 t2 : TD} {e : ED} (hc : X.calm = true) (hN : X.N.Nodup) (hi : SJ X E C tg iter s) (ok : BlkOk X.N X.env.scope scope own) (hv : ∀ i ∈ slotsT k1, i ∈ own.map (·.2)) (hvs : ∀ i ∈ vs1, i ∈ own.map (·.2)) (hv1 : ∀ i ∈ slotsT k2, i ∈ vs1)
    (hg : ∀ b : Bk, SG (b.x X scope) tg k1) (ht : ∀ b : Bk, STs (b.x X scope) E0 C ifs t1) (hi1 : ∀ b : Bk, SI (b.x X scope) E0 C tg1 iter1 s2) (hg1 : ∀ b : Bk, SG (b.x X scope) tg1 k2) (ht1 : ∀ b : Bk, STs (b.x X scope) E0 C ifs1 t2) (he : ∀ b : Bk, SE (b.x X scope) E0 C elt e)
    (hs : ∀ x, foldedSetIterable iter X.env x = pure x := by intro _; rfl) (hs1 : ∀ env x, foldedSetIterable iter1 env x = pure x := by intro _ _; rfl) :
    SE X E C (.ListComp elt [⟨tg, iter, ifs, 0⟩, ⟨tg1, iter1, ifs1, 0⟩] scope pos) (lc2D s (own.map (·.2)) k1 t1 s2 vs1 k2 t2 e) := by
  obtain ⟨wi, pw, sw⟩ := hi
  obtain ⟨te, pe, se⟩ := blk_e he
  obtain ⟨tt, pt, st⟩ := blk_t ht
  obtain ⟨tt1, pt1, st1⟩ := blk_t ht1
  obtain ⟨wi1, pw1, sw1⟩ := blk_i hi1
  exact ⟨_, pe_lc2 hc hN pw ok hvs (fun s H C cl fp => (hg ⟨s, H, C, cl, fp⟩).p) (fun s H C cl fp => pt ⟨s, H, C, cl, fp⟩) (fun s H C cl fp => pw1 ⟨s, H, C, cl, fp⟩) (fun s H C cl fp => (hg1 ⟨s, H, C, cl, fp⟩).p) (fun s H C cl fp => pt1 ⟨s, H, C, cl, fp⟩) (fun s H C cl fp => pe ⟨s, H, C, cl, fp⟩) hs hs1, sim_lc2 hv hv1 sw sw1 st st1 se⟩
theorem ss_asgLc2 {y : Str} {py : Pos} {elt tg iter tg1 iter1 : Expr} {ifs ifs1 : List Expr} {scope : Scope} {own : List (Str × Nat)} {vs1 : List Nat} {pos spos : Pos} {s s2 : LD} {k1 k2 : Tg} {t1 t2 : TD} {e : ED} (i : Nat) (hc : X.calm = true) (hN : X.N.Nodup) (hyl : X.env.scope.names.lookup y = some .local)
    (hsw : swapsWith (.ListComp elt [⟨tg, iter, ifs, 0⟩, ⟨tg1, iter1, ifs1, 0⟩] scope pos) (some (.Name y py)) spos.line X.env = pure true) (hi : SJ X E C tg iter s) (ok : BlkOk X.N X.env.scope scope own) (hv : ∀ i ∈ slotsT k1, i ∈ own.map (·.2)) (hvs : ∀ i ∈ vs1, i ∈ own.map (·.2)) (hv1 : ∀ i ∈ slotsT k2, i ∈ vs1)
    (hg : ∀ b : Bk, SG (b.x X scope) tg k1) (ht : ∀ b : Bk, STs (b.x X scope) E0 C ifs t1) (hi1 : ∀ b : Bk, SI (b.x X scope) E0 C tg1 iter1 s2) (hg1 : ∀ b : Bk, SG (b.x X scope) tg1 k2) (ht1 : ∀ b : Bk, STs (b.x X scope) E0 C ifs1 t2) (he : ∀ b : Bk, SE (b.x X scope) E0 C elt e)
    (hy : X.N[i]? = some y := by rfl) (hs : ∀ x, foldedSetIterable iter X.env x = pure x := by intro _; rfl) (hs1 : ∀ env x, foldedSetIterable iter1 env x = pure x := by intro _ _; rfl) :
    SS X E C (.Assign [.Name y py] (.ListComp elt [⟨tg, iter, ifs, 0⟩, ⟨tg1, iter1, ifs1, 0⟩] scope pos) spos) (asgD i (lc2D s (own.map (·.2)) k1 t1 s2 vs1 k2 t2 e)) := by
  obtain ⟨wi, pw, sw⟩ := hi
  obtain ⟨te, pe, se⟩ := blk_e he
  obtain ⟨tt, pt, st⟩ := blk_t ht
  obtain ⟨tt1, pt1, st1⟩ := blk_t ht1
  obtain ⟨wi1, pw1, sw1⟩ := blk_i hi1
  exact ⟨_, ps_setLc2 hc hN hy hyl hsw pw ok hvs (fun s H C cl fp => (hg ⟨s, H, C, cl, fp⟩).p) (fun s H C cl fp => pt ⟨s, H, C, cl, fp⟩) (fun s H C cl fp => pw1 ⟨s, H, C, cl, fp⟩) (fun s H C cl fp => (hg1 ⟨s, H, C, cl, fp⟩).p) (fun s H C cl fp => pt1 ⟨s, H, C, cl, fp⟩) (fun s H C cl fp => pe ⟨s, H, C, cl, fp⟩) hs hs1, sim_asg i (sim_lc2 hv hv1 sw sw1 st st1 se)⟩
end
end Z

/-! ## ZD -/
set_option Elab.async false
set_option linter.all false
set_option maxRecDepth 100000
set_option maxHeartbeats 2000000
namespace Z
open PySem PySem.Spec PyProof.Rows L2

/-! ### [e for ..], e a new owned list of n + 1 levels each time -/
def R.asFr (n : Nat) : R → Option (Ty (n + 1))
  | .fr m t => if h : m = n then some (h ▸ t) else none
  | _ => none
def lcLF (n : Nat) (k : Tg) (t : TD) (e : ED) (ρ : Env) : List PD → Out (List (Ty (n + 1)))
  | [] => .ok []
  | d :: ds => match bindT k d ρ with
    | none => .st
    | some ρ1 => (noX (t ρ1)).bind fun c => if c = true then (noX (e ρ1)).bind fun r => match r.asFr n with
        | some y => (lcLF n k t e ρ ds).bind fun ys => .ok (y :: ys)
        | none => .st
      else lcLF n k t e ρ ds
def lcFD (n : Nat) (s : LD) (vs : List Nat) (k : Tg) (t : TD) (e : ED) : ED := fun ρ => (s ρ).bind fun ds => (noX (lcLF n k t e (wipeE ρ vs) ds)).bind fun ys => if ys.length ≤ 100000 then .ok (.fr (n + 1) ys) else .st
section
variable {X : Cx} {E : XK} {C : CM}
theorem sim_lcF {K : PySem.W.Frag} {wi : TI} {s : LD} {n : Nat} {k : Tg} {tt : TT} {t : TD} {te : TE} {e : ED} {vs : List Nat} (hv : ∀ i ∈ slotsT k, i ∈ vs)
    (sw : ∀ G0 H0 G H σ ρ (Q : It → Hp → Prop), EnvOk K G0 H0 G H σ ρ → (match s ρ with
      | .ok ds => ∀ J G' H', Grow G H G' H' → Walks K J G' ds (fun H2 => Same H' H2) → Q J H'
      | .ex c => ∀ G' H', Grow G H G' H' → E (C c) none H'
      | .st => False) → wi σ H Q)
    (st : SimT K E0 C tt t) (se : SimE K E0 C te e) : SimE K E C (tLc wi (tgOf K k) tt te vs) (lcFD n s vs k t e) := by
  intro G0 H0 G H σ ρ Q I h
  unfold lcFD at h
  refine sw G0 H0 G H σ ρ _ I ?_
  cases es : s ρ with
  | st => rw [es] at h; exact h
  | ex c => rw [es] at h; exact h
  | ok ds =>
    rw [es] at h
    intro J G1 H1 g1 wk D hD
    have I1 := I.grow g1
    have q : OOk K E C G H Q ((noX (lcLF n k t e (wipeE ρ vs) ds)).bind fun ys => if ys.length ≤ 100000 then .ok (.fr (n + 1) ys) else .st) := h
    obtain ⟨ys, ey, hlen, hfin⟩ : ∃ ys, lcLF n k t e (wipeE ρ vs) ds = .ok ys ∧ ys.length ≤ 100000 ∧ OOk K E C G H Q (.ok (.fr (n + 1) ys)) := by
      cases ey : lcLF n k t e (wipeE ρ vs) ds with
      | ok ys =>
        rw [ey] at q
        by_cases c : ys.length ≤ 100000
        · exact ⟨ys, rfl, c, by have q' : OOk K E C G H Q (if ys.length ≤ 100000 then .ok (.fr (n + 1) ys) else .st) := q; rw [if_pos c] at q'; exact q'⟩
        · have q' : OOk K E C G H Q (if ys.length ≤ 100000 then .ok (.fr (n + 1) ys) else .st) := q
          rw [if_neg c] at q'
          exact q'.elim
      | ex c => rw [ey] at q; exact q.elim
      | st => rw [ey] at q; exact q.elim
    have s1 : Same H1 (hide (upd H1 D (.lst [])) D) := by rw [hide_upd]; exact same_to_hide (Same.refl _) hD
    have gs : Grow G1 H1 G1 (hide (upd H1 D (.lst [])) D) := ⟨Same.refl _, s1, I1.s.trans s1, fun _ _ _ _ h => h⟩
    -- what has been made: trees of their own
    let Mk : Hp → Hp → List (ATy (n + 1)) → Prop := fun G2 H2 xs => (∀ y ∈ xs, ATy.ok K G2 H2 (n + 1) y ∧ ATy.nd (n + 1) y ∧ ∀ a ∈ ATy.adr (n + 1) y, H1 a = none ∧ G2 a = none ∧ a ≠ D) ∧ xs.Pairwise fun y z => ∀ a ∈ ATy.adr (n + 1) y, a ∉ ATy.adr (n + 1) z
    refine ⟨fun i m H2 => ∃ G2 xs rest, Grow G1 H1 G2 (hide H2 D) ∧ G2 D = none ∧ H2 D = some (.lst (xs.map (ATy.val (n + 1)))) ∧ Mk G2 H2 xs ∧ m = ds.length - i ∧ i ≤ ds.length ∧ lcLF n k t e (wipeE ρ vs) (ds.drop i) = .ok rest ∧ ys = xs.map (ATy.era (n + 1)) ++ rest,
      ⟨ds.length, G1, [], ys, gs, I1.s.free hD, upd_same, ⟨(fun _ h => nomatch h), .nil⟩, rfl, Nat.zero_le _, ey, rfl⟩, ?_⟩
    rintro i m H2 ⟨G2, xs, rest, g2, nG, hacc, mk, rfl, hi, hr, hy⟩
    have gu : Grow G2 (hide H2 D) G2 H2 := Grow.unhide g2.s
    have g12 : Grow G1 H1 G2 H2 := g2.trans gu
    have I2 := I1.grow g12
    have mkGrow : ∀ {G3 H3}, Grow G2 H2 G3 H3 → Mk G3 H3 xs := fun {G3 H3} g => ⟨fun y hy => by
      obtain ⟨y1, y2, y3⟩ := mk.1 y hy
      refine ⟨ATy.ok_mono g.g g.h _ _ y1, y2, fun a ha => ⟨(y3 a ha).1, ?_, (y3 a ha).2.2⟩⟩
      obtain ⟨us, hu⟩ := ATy.in_heap _ _ y1 a ha
      exact g.m a _ hu trivial (y3 a ha).2.1, mk.2⟩
    by_cases hlt : i < ds.length
    · have hd : ds[i]? = some ds[i] := List.getElem?_eq_getElem hlt
      obtain ⟨go, yl⟩ := (wk i H2 g12.h).2 _ hd
      refine .inr ⟨go, fun H3 => ∃ G3 xs rest, Grow G1 H1 G3 (hide H3 D) ∧ G3 D = none ∧ H3 D = some (.lst (xs.map (ATy.val (n + 1)))) ∧ Mk G3 H3 xs ∧ lcLF n k t e (wipeE ρ vs) (ds.drop (i + 1)) = .ok rest ∧ ys = xs.map (ATy.era (n + 1)) ++ rest, fun H3 ⟨G3, xs, rest, a1, a2, a3, a4, a5, a6⟩ => ⟨ds.length - (i + 1), by omega, G3, xs, rest, a1, a2, a3, a4, rfl, hlt, a5, a6⟩, fun v H3 hyl => ?_⟩
      obtain ⟨G3, g3, rd⟩ := yl v H3 hyl G2 g12.g I2.s
      have I3 := I2.grow g3
      refine tgOf_ok k (I3.wipe vs) rd ?_
      rw [List.drop_eq_getElem_cons hlt] at hr
      unfold lcLF at hr
      cases eb : bindT k ds[i] (wipeE ρ vs) with
      | none => simp only [eb] at hr; cases hr
      | some ρ1 =>
        simp only [eb] at hr
        intro σ3 I4 hw
        refine ⟨by rw [hw vs hv, wipe_wipe], ?_⟩
        refine st G0 H0 G3 H3 σ3 ρ1 _ I4 ?_
        cases et : t ρ1 with
        | ex c => simp [et, noX, Out.bind] at hr
        | st => simp [et, noX, Out.bind] at hr
        | ok b =>
          simp only [et, noX, Out.bind] at hr
          intro G4 H4 g4
          have I5 := I4.grow g4
          have g24 := g3.trans g4
          cases b with
          | false =>
            obtain ⟨r1, r2⟩ := g2.rehide g24 hD hacc trivial nG
            exact ⟨G4, xs, rest, r1, r2, g24.h _ _ hacc, mkGrow g24, hr, hy⟩
          | true =>
            simp only [if_true] at hr
            refine se G0 H0 G4 H4 σ3 ρ1 _ I5 ?_
            cases ee : e ρ1 with
            | ex c => simp [ee] at hr
            | st => simp [ee] at hr
            | ok r =>
              simp only [ee] at hr
              cases ea : r.asFr n with
              | none => simp [ea] at hr
              | some y =>
                simp only [ea] at hr
                cases el : lcLF n k t e (wipeE ρ vs) (ds.drop (i + 1)) with
                | ex c => simp [el] at hr
                | st => simp [el] at hr
                | ok rest' =>
                  simp only [el] at hr
                  have er2 : y :: rest' = rest := by injection hr
                  intro v G5 H5 g5 hr5
                  have g25 := g24.trans g5
                  have efr : r = .fr n y := by
                    cases r with
                    | im d => cases ea
                    | ro m u => cases ea
                    | fr m u =>
                      simp only [R.asFr] at ea
                      split at ea
                      · rename_i hm
                        subst hm
                        cases ea
                        rfl
                      · cases ea
                  subst efr
                  obtain ⟨z, z1, z2, z3, z4, z5⟩ := hr5
                  obtain ⟨r1, r2⟩ := g2.rehide g25 hD hacc trivial nG
                  have acc5 := g25.h _ _ hacc
                  have acc4 := g24.h _ _ hacc
                  have zD : ∀ a ∈ ATy.adr (n + 1) z, a ≠ D := fun a ha q => by
                    have := (z5 a ha).1
                    rw [q, acc4] at this
                    cases this
                  obtain ⟨m1, m2⟩ := mkGrow g25
                  have s14 : Same H1 H4 := g12.h.trans g24.h
                  refine ⟨_, acc5, ?_, G5, xs ++ [z], rest', by rw [hide_upd]; exact r1, r2, ?_, ⟨?_, ?_⟩, rfl, ?_⟩
                  · rw [List.length_map]
                    have : ys.length = xs.length + rest.length := by rw [hy]; simp
                    exact lt_line (by omega)
                  · rw [upd_same, List.map_append, List.map_singleton, z2]
                  · intro w hw
                    rw [List.mem_append, List.mem_singleton] at hw
                    rcases hw with h | h
                    · obtain ⟨w1, w2, w3⟩ := m1 w h
                      exact ⟨ATy.ok_keep (Same.refl _) _ _ (fun a ha => upd_ne (w3 a ha).2.2) w1, w2, w3⟩
                    · subst h
                      exact ⟨ATy.ok_keep (Same.refl _) _ _ (fun a ha => upd_ne (zD a ha)) z3, z4, fun a ha => ⟨s14.free (z5 a ha).1, (z5 a ha).2, zD a ha⟩⟩
                  · refine pairwise_snoc m2 fun w hw a ha q => ?_
                    obtain ⟨w1, w2, w3⟩ := (mkGrow g24).1 w hw
                    obtain ⟨us, hu⟩ := ATy.in_heap _ _ w1 a ha
                    rw [(z5 a q).1] at hu
                    cases hu
                  · rw [hy, List.map_append, List.map_singleton, z1, ← er2]
                    simp
    · have e2 : i = ds.length := by omega
      refine .inl ⟨(wk i H2 g12.h).1 (by omega), ?_⟩
      rw [e2, List.drop_length] at hr
      have e3 : rest = [] := by cases hr; rfl
      subst e3
      rw [List.append_nil] at hy
      have h1 : H D = none := g1.h.free hD
      refine hfin _ G2 H2 (g1.trans g12) ⟨((D, xs) : Addr × List (ATy (n + 1))), hy.symm, rfl, ⟨hacc, fun y hy => (mk.1 y hy).1⟩, ⟨fun y hy => ⟨(mk.1 y hy).2.1, fun q => ((mk.1 y hy).2.2 D q).2.2 rfl⟩, mk.2⟩, fun a ha => ?_⟩
      have ha' : a ∈ D :: xs.flatMap (ATy.adr (n + 1)) := ha
      simp only [List.mem_cons, List.mem_flatMap] at ha'
      rcases ha' with rfl | ⟨y, hy, ha⟩
      · exact ⟨h1, nG⟩
      · exact ⟨g1.h.free ((mk.1 y hy).2.2 a ha).1, ((mk.1 y hy).2.2 a ha).2.1⟩
theorem se_lcF {elt tg iter : Expr} {ifs : List Expr} {scope : Scope} {own : List (Str × Nat)} {pos : Pos} {s : LD} {k : Tg} {t : TD} {e : ED} (n : Nat) (hc : X.calm = true) (hN : X.N.Nodup) (hi : SJ X E C tg iter s) (ok : BlkOk X.N X.env.scope scope own) (hv : ∀ i ∈ slotsT k, i ∈ own.map (·.2))
    (hg : ∀ b : Bk, SG (b.x X scope) tg k) (ht : ∀ b : Bk, STs (b.x X scope) E0 C ifs t) (he : ∀ b : Bk, SE (b.x X scope) E0 C elt e) (hs : ∀ x, foldedSetIterable iter X.env x = pure x := by intro _; rfl) :
    SE X E C (.ListComp elt [⟨tg, iter, ifs, 0⟩] scope pos) (lcFD n s (own.map (·.2)) k t e) := by
  obtain ⟨wi, pw, sw⟩ := hi
  obtain ⟨te, pe, se⟩ := blk_e he
  obtain ⟨tt, pt, st⟩ := blk_t ht
  exact ⟨_, pe_lc hc hN pw ok (fun s H C cl fp => (hg ⟨s, H, C, cl, fp⟩).p) (fun s H C cl fp => pt ⟨s, H, C, cl, fp⟩) (fun s H C cl fp => pe ⟨s, H, C, cl, fp⟩) hs, sim_lcF hv sw st se⟩
theorem ss_asgLcF {y : Str} {py : Pos} {elt tg iter : Expr} {ifs : List Expr} {scope : Scope} {own : List (Str × Nat)} {pos spos : Pos} {s : LD} {k : Tg} {t : TD} {e : ED} (n i : Nat) (hc : X.calm = true) (hN : X.N.Nodup) (hyl : X.env.scope.names.lookup y = some .local)
    (hsw : swapsWith (.ListComp elt [⟨tg, iter, ifs, 0⟩] scope pos) (some (.Name y py)) spos.line X.env = pure true) (hi : SJ X E C tg iter s) (ok : BlkOk X.N X.env.scope scope own) (hv : ∀ i ∈ slotsT k, i ∈ own.map (·.2))
    (hg : ∀ b : Bk, SG (b.x X scope) tg k) (ht : ∀ b : Bk, STs (b.x X scope) E0 C ifs t) (he : ∀ b : Bk, SE (b.x X scope) E0 C elt e) (hy : X.N[i]? = some y := by rfl) (hs : ∀ x, foldedSetIterable iter X.env x = pure x := by intro _; rfl) :
    SS X E C (.Assign [.Name y py] (.ListComp elt [⟨tg, iter, ifs, 0⟩] scope pos) spos) (asgD i (lcFD n s (own.map (·.2)) k t e)) := by
  obtain ⟨wi, pw, sw⟩ := hi
  obtain ⟨te, pe, se⟩ := blk_e he
  obtain ⟨tt, pt, st⟩ := blk_t ht
  exact ⟨_, ps_setLc hc hN hy hyl hsw pw ok (fun s H C cl fp => (hg ⟨s, H, C, cl, fp⟩).p) (fun s H C cl fp => pt ⟨s, H, C, cl, fp⟩) (fun s H C cl fp => pe ⟨s, H, C, cl, fp⟩) hs, sim_asg i (sim_lcF hv sw st se)⟩
/-- [] as an owned list of lists -/
@[simp] def nilD (n : Nat) : ED := fun _ => .ok (.fr n [])
theorem se_nil (n : Nat) {pos : Pos} : SE X E C (.List [] pos) (nilD n) := by
  refine ⟨_, pe_lst pa_nil, fun G0 H0 G H σ ρ Q I h => ?_⟩
  refine ⟨Nat.zero_le _, fun p hp => h _ G _ (Grow.new I.s hp) ⟨((p, []) : Addr × List (ATy n)), rfl, rfl, ⟨upd_same, (fun _ h => nomatch h)⟩, ⟨(fun _ h => nomatch h), .nil⟩, fun a ha => ?_⟩⟩
  have ha' : a ∈ p :: ([] : List (ATy n)).flatMap (ATy.adr n) := ha
  have e : a = p := by simpa using ha'
  subst e
  exact ⟨hp, I.s.free hp⟩
/-- what is new is known for ever -/
@[simp] def fzD (e : ED) : ED := fun ρ => (e ρ).bind fun r => .ok r.fz
theorem se_fz {e : Expr} {d : ED} (he : SE X E C e d) : SE X E C e (fzD d) := by
  obtain ⟨te, pe, se⟩ := he
  refine ⟨_, pe, fun G0 H0 G H σ ρ Q I h => ?_⟩
  refine se.useF famO I h fun r x G1 H1 e1 g1 I1 k1 h1 => h1 x G1 H1 (Grow.refl I1.s) ?_
  cases r <;> exact k1

/-! ### len(set(xs)) of ints -/
def ddL (ns : List Int) : List Int := ns.foldl PyProof.Rows.step_dedup []
theorem firstMet_eq (ns : List Int) : PyProof.Rows.firstMet (fun i => ns.getD i 0) ns.length = ddL ns := by
  unfold PyProof.Rows.firstMet ddL
  congr 1
  apply List.ext_getElem
  · simp
  · intro i h1 h2
    simp at h1
    simp [List.getD_eq_getElem?_getD, h1]
@[simp] def lenSetD (e : ED) : ED := fun ρ => (e ρ).bind fun r => match r.dat with
  | .list ds => match intsOf ds with
    | some ns => if ns.length ≤ 4000 then .ok (.im (.int ((ddL ns).length : Nat))) else .st
    | none => .st
  | _ => .st
theorem se_lenSet {a : Expr} {d : ED} {p p2 q pos : Pos} (hg : Gl X "len") (hm : X.mg "len" = none) (hg2 : Gl X "set") (hm2 : X.mg "set" = none) (ha : SE X E C a d) (hc : X.calm = true := by rfl)
    (na : starEach [a] X.env = (false, eval a X.env) :: starEach [] X.env := by rfl) : SE X E C (.Call (.Name "len" p) [.Call (.Name "set" p2) [a] [] q] [] pos) (lenSetD d) := by
  obtain ⟨ta, pa, sa⟩ := ha
  refine ⟨fun σ H Q => ta σ H fun x H1 => ∃ (l : Addr) (ns : List Int), x = .ref l ∧ SqL X.K H1 l (ns.map V.int) ∧ ns.length ≤ 4000 ∧ Q (.int ((ddL ns).length : Nat)) H1, ⟨fun pins s σ H Q I h => ?_⟩, ?_⟩
  · refine Call_ (ld_blt I hg hm boot_len ?_)
    refine PyProof.Rows.callWith_builtin1 (PyProof.Rows.args_cons ?_ rfl) rfl rfl
    refine Call_ (ld_blt I hg2 hm2 boot_set ?_)
    refine PyProof.Rows.callWith_type1 (PyProof.Rows.args_cons (thn (pa.run pins s σ H _ I h) fun v s1 ⟨x, H1, I1, r1, q1⟩ => PyProof.Rows.args_nil ?_) na) na rfl
    obtain ⟨l, ns, rfl, hq, hl, q1⟩ := q1
    cases r1
    obtain ⟨its, r, pl, hz⟩ := I1.list hq
    have hlen : its.toArray.size = ns.length := by rw [List.size_toArray, ← r.length, List.length_map]
    refine call_set_list (I1.ok.hd hc) pl.isList (by simpa using RZ.intsAre_vals r) (by rw [hlen]; unfold scanBound; omega) fun h' tk hS hk => ?_
    refine PyProof.Rows.args_nil ?_
    rw [hlen, firstMet_eq] at hS
    obtain ⟨o, es, ep, t, ho, hex, hd, _, _, _, hf, hn⟩ := hS
    have I2 : Inv X pins σ H1 { s1 with heap := h', toks := tk } := I1.kept fun b o e => hk b o (Heap.lt_size e) e
    have hle : (ddL ns).length ≤ ns.length := by
      rw [← firstMet_eq]
      exact PyProof.Rows.firstMet_length_le _ _
    exact call_len_set ho hex hd hf (by rw [hn] <;> omega) ⟨.int (ddL ns).length, H1, I2.tok _, ⟨_, by rw [hn]⟩, q1⟩
  · intro G0 H0 G H σ ρ Q I h
    refine sa.use famO I h fun r x G1 H1 e1 g1 I1 k1 h1 => ?_
    have k := k1.rp I1.s
    split at h1
    · rename_i ds q
      rw [q] at k
      split at h1
      · rename_i ns q2
        split at h1
        · rename_i c
          rw [intsOf_eq q2] at k
          cases k with
          | lst h3 h4 =>
            rw [h4.ints] at h3
            exact ⟨_, ns, rfl, SqL.of h3, c, h1 _ G1 H1 (Grow.refl I1.s) (.int _)⟩
        · exact h1.elim
      · exact h1.elim
    · exact h1.elim
theorem dd_snoc (ns : List Int) (n : Int) : ddL (ns ++ [n]) = PyProof.Rows.step_dedup (ddL ns) n := by
  unfold ddL
  rw [List.foldl_append]
  rfl
end
end Z

/-! ## ZE -/
set_option Elab.async false
set_option linter.all false
namespace Z
open PySem PySem.Spec PyProof.Rows L2
/-- a law's end where the rights of an exception speak of the world -/
theorem walk_w {l : PySem.W.OpenLaw} {n k : Nat} {q : Program} {loose : List Str} {XP : (Str → Option Value) → Heap → Prop} {YP : World → Heap → Prop} {d : DefRec} {CX : World → CXT} {x : Str}
    (hn : l.most = some n) (hn2 : n ≤ sizeLine) (hdf : d.params.defaults = []) (hr : Room k callerA)
    (hCX : ∀ (w : World) (H : Hp) (s : Shared) (e : Value) (s' : Shared), CX w [] H s (fun _ _ _ => False) e s' → False)
    (F : ∀ (w : World) (mg : Str → Option Value) (fa : Addr) (h : Heap), YP w h → h.Ns mainGlobals mg → mg d.name = some (.ref fa) →
      ∃ (K : PySem.W.Frag) (fd : FuncData) (sp : Sp), K.In h ∧ (∀ (s : Shared) (u : Value), BindsTo s fd ⟨[u], []⟩ [(x, u)]) ∧
        (∀ (H : Hp) (a : Addr) (ns : List Int), ns.length ≤ n → Only H → SqL K H a (ns.map V.int) → sp [.ref a] H (fun v _ => v = .bl true) fun _ _ _ => False) ∧
        ∀ base : Heap, K.In base → base.Ns mainGlobals mg → FnOk l.prog w K mg base (CX w) k fa fd [x] sp) :
    PySem.W.WalkO q loose XP YP l.row.toRowW d [] (fun f vs => PySem.call f vs) := by
  refine Att.attach_call hn hdf fun w s₀ s₁ mg mb fa o pm cd doc a vs ns G Y ho hd hcd hmg hobj hints hlen hg => ?_
  obtain ⟨K, fd, sp, KX, hb, hsp, hF⟩ := F w mg fa _ Y G.T.g hmg
  exact law_call KX G.T.g G.T.b G.T.builtins G.T.nolimit hg hobj hints (Nat.le_trans hlen hn2) hr hF hb (fun H hO hS => hsp H a ns hlen hO hS) fun H e s' => hCX w H s₁ e s'
theorem cx_no {P : Program} (w : World) (H : Hp) (s : Shared) (e : Value) (s' : Shared) (h : L2N.CX P w [] H s (fun _ _ _ => False) e s') : False := by
  obtain ⟨_, _, _, _, _, _, _, _, _, _, _, _, z⟩ := h
  exact z
end Z

/-! ## ZF -/
set_option Elab.async false
set_option linter.all false
set_option maxRecDepth 100000
set_option maxHeartbeats 2000000
namespace Z
open PySem PySem.Spec PyProof.Rows L2
section
variable {X : Cx} {E : XK} {C : CM}
/-! ### [a, b], a and b two new owned lists of one shape -/
def lstF2 (n : Nat) (e1 e2 : ED) : ED := fun ρ => (e1 ρ).bind fun r1 => (e2 ρ).bind fun r2 => match r1.asFr n, r2.asFr n with
  | some a, some b => .ok (.fr (n + 1) [a, b])
  | _, _ => .st
theorem asFr_eq {n : Nat} {r : R} {t : Ty (n + 1)} (h : r.asFr n = some t) : r = .fr n t := by
  cases r with
  | im d => simp [R.asFr] at h
  | ro m u => simp [R.asFr] at h
  | fr m u =>
    simp only [R.asFr] at h
    split at h
    · rename_i e
      subst e
      cases h
      rfl
    · cases h
theorem pair_own {K : PySem.W.Frag} {H G1 H1 G2 H2 : Hp} {n : Nat} {a b : Ty (n + 1)} {v1 v2 : V} {p : Addr} (g1 : Grow H H H1 H1) (g2 : Grow G1 H1 G2 H2) (k1 : ROk K H G1 H1 (.fr n a) v1) (k2 : ROk K H1 G2 H2 (.fr n b) v2) (hp : H2 p = none) (hs : Same H H1) : ROk K H G2 (upd H2 p (.lst [v1, v2])) (.fr (n + 1) [a, b]) (.ref p) := by
  obtain ⟨x, x1, x2, x3, x4, x5⟩ := k1
  obtain ⟨y, y1, y2, y3, y4, y5⟩ := k2
  subst x1; subst x2; subst y1; subst y2
  have xh := ATy.in_heap (n + 1) x x3
  have yh := ATy.in_heap (n + 1) y y3
  have x3' := ATy.ok_mono g2.g (g2.h.trans (same_upd (o := .lst [ATy.val (n + 1) x, ATy.val (n + 1) y]) hp)) (n + 1) x x3
  have y3' := ATy.ok_mono (Same.refl _) (same_upd (o := .lst [ATy.val (n + 1) x, ATy.val (n + 1) y]) hp) (n + 1) y y3
  have np : ∀ c, H2 c ≠ none → c ≠ p := fun c h e => h (e ▸ hp)
  have xp : p ∉ ATy.adr (n + 1) x := fun h => by
    obtain ⟨xs, e⟩ := xh p h
    have := g2.h _ _ e
    rw [hp] at this
    cases this
  have yp : p ∉ ATy.adr (n + 1) y := fun h => by
    obtain ⟨xs, e⟩ := yh p h
    rw [hp] at e
    cases e
  have dj : ∀ c ∈ ATy.adr (n + 1) x, c ∉ ATy.adr (n + 1) y := fun c h1 h2 => by
    obtain ⟨xs, e⟩ := xh c h1
    rw [(y5 c h2).1] at e
    cases e
  refine ⟨((p, [x, y]) : Addr × List (ATy (n + 1))), rfl, rfl, ⟨upd_same, ?_⟩, ⟨?_, ?_⟩, ?_⟩
  · intro z hz
    have hz' : z = x ∨ z = y := by simpa using hz
    rcases hz' with rfl | rfl
    · exact x3'
    · exact y3'
  · intro z hz
    have hz' : z = x ∨ z = y := by simpa using hz
    rcases hz' with rfl | rfl
    · exact ⟨x4, xp⟩
    · exact ⟨y4, yp⟩
  · exact .cons (fun z hz => by have : z = y := by simpa using hz
                                subst this; exact dj) (.cons (fun _ h => nomatch h) .nil)
  · intro c hc
    have hc' : c = p ∨ c ∈ ATy.adr (n + 1) x ∨ c ∈ ATy.adr (n + 1) y := by
      have : c ∈ p :: ([x, y] : List (ATy (n + 1))).flatMap (ATy.adr (n + 1)) := hc
      simpa using this
    have fH : ∀ c, H2 c = none → H c = none := fun c h => hs.free (g2.h.free h)
    rcases hc' with rfl | h | h
    · exact ⟨fH _ hp, g2.s.free hp⟩
    · obtain ⟨xs, e⟩ := xh c h
      exact ⟨(x5 c h).1, g2.m c _ e trivial (x5 c h).2⟩
    · exact ⟨hs.free (y5 c h).1, (y5 c h).2⟩
theorem se_lstF2 (n : Nat) {a b : Expr} {d1 d2 : ED} {pos : Pos} (h1 : SE X E C a d1) (h2 : SE X E C b d2) (hs1 : starEach [a, b] X.env = (false, eval a X.env) :: starEach [b] X.env := by rfl) (hs2 : starEach [b] X.env = (false, eval b X.env) :: starEach [] X.env := by rfl) : SE X E C (.List [a, b] pos) (lstF2 n d1 d2) := by
  obtain ⟨t1, p1, s1⟩ := h1
  obtain ⟨t2, p2, s2⟩ := h2
  refine ⟨_, pe_lst (pa_cons p1 (pa_cons p2 pa_nil hs2) hs1), ?_⟩
  intro G0 H0 G H σ ρ Q I h
  refine s1 G0 H0 G H σ ρ _ I ?_
  unfold lstF2 at h
  cases e1 : d1 ρ with
  | ex c => rw [e1] at h; exact h
  | st => rw [e1] at h; exact h.elim
  | ok r1 =>
    rw [e1] at h
    intro v1 G1 H1 g1 k1
    refine s2 G0 H0 G1 H1 σ ρ _ (I.grow g1) ?_
    have h' : OOk X.K E C G H Q ((d2 ρ).bind fun r2 => match r1.asFr n, r2.asFr n with
      | some a, some b => .ok (.fr (n + 1) [a, b])
      | _, _ => .st) := h
    cases e2 : d2 ρ with
    | ex c => rw [e2] at h'; exact fun G' H' g => h' G' H' (g1.trans g)
    | st => rw [e2] at h'; exact h'.elim
    | ok r2 =>
      rw [e2] at h'
      intro v2 G2 H2 g2 k2
      have h2' : OOk X.K E C G H Q (match r1.asFr n, r2.asFr n with
        | some a, some b => .ok (.fr (n + 1) [a, b])
        | _, _ => .st) := h'
      split at h2'
      · rename_i a b ea eb
        have f1 := asFr_eq ea
        have f2 := asFr_eq eb
        subst f1; subst f2
        refine ⟨(show (2 : Nat) ≤ sizeLine by decide), fun p hp => h2' _ G2 _ ((g1.trans g2).trans (Grow.new g2.s hp)) ?_⟩
        exact pair_own ⟨g1.h, g1.h, Same.refl _, fun a o e m hn => by rw [e] at hn; cases hn⟩ g2 k1 k2 hp g1.h
      · exact h2'.elim
/-! ### a display of owned lists, only read -/
def ros (n : Nat) : List R → Option (List (Ty (n + 1)))
  | [] => some []
  | .ro m t :: rs => if h : m = n then (ros n rs).map ((h ▸ t) :: ·) else none
  | _ => none
theorem ROkA.ros {K : PySem.W.Frag} {H0 G H : Hp} {n : Nat} {rs : List R} {vs : List V} {ts : List (Ty (n + 1))} (h : ROkA K H0 G H rs vs) (e : ros n rs = some ts) : ∃ xs : List (ATy (n + 1)), xs.map (ATy.era (n + 1)) = ts ∧ xs.map (ATy.val (n + 1)) = vs ∧ ∀ x ∈ xs, ATy.ok K G H (n + 1) x := by
  induction h generalizing ts with
  | nil => cases e; exact ⟨[], rfl, rfl, (fun _ h => nomatch h)⟩
  | @cons r rs v vs a _ ih =>
    cases r with
    | im d => simp [Z.ros] at e
    | fr m t => simp [Z.ros] at e
    | ro m t =>
      simp only [Z.ros] at e
      split at e
      · rename_i hm
        subst hm
        simp only [Option.map_eq_some_iff] at e
        obtain ⟨us, e1, e2⟩ := e
        subst e2
        obtain ⟨xs, q1, q2, q3⟩ := ih e1
        obtain ⟨x, x1, x2, x3⟩ := a
        refine ⟨x :: xs, ?_, ?_, ?_⟩
        · rw [List.map_cons, q1, x1]
        · rw [List.map_cons, q2, x2]
        · intro z hz
          rcases List.mem_cons.mp hz with rfl | hz
          · exact x3
          · exact q3 z hz
      · cases e
def lstRD (n : Nat) (a : AD) : ED := fun ρ => (a ρ).bind fun rs => match ros n rs with
  | some ts => if rs.length ≤ 100000 then .ok (.ro (n + 1) ts) else .st
  | none => .st
theorem ROkA.length {K : PySem.W.Frag} {H0 G H : Hp} {rs : List R} {vs : List V} (h : ROkA K H0 G H rs vs) : vs.length = rs.length := by
  induction h with
  | nil => rfl
  | cons _ _ ih => simp [ih]
theorem se_lstR (n : Nat) {es : List Expr} {a : AD} {pos : Pos} (ha : SA X E C es a) : SE X E C (.List es pos) (lstRD n a) := by
  obtain ⟨ta, pa, sa⟩ := ha
  refine ⟨_, pe_lst pa, ?_⟩
  intro G0 H0 G H σ ρ Q I h
  refine sa.use famO I h fun rs vs G1 H1 e1 g1 I1 k1 h1 => ?_
  have hl := k1.length
  cases e : ros n rs with
  | none => rw [e] at h1; exact h1.elim
  | some ts =>
    simp only [e] at h1
    split at h1
    · rename_i c
      obtain ⟨xs, q1, q2, q3⟩ := k1.ros e
      refine ⟨by rw [hl]; exact le_line c, fun p hp => h1 _ G1 _ (Grow.new I1.s hp) ?_⟩
      refine ⟨((p, xs) : Addr × List (ATy (n + 1))), q1, rfl, ?_, fun x hx => ATy.ok_mono (Same.refl _) (same_upd hp) (n + 1) x (q3 x hx)⟩
      show upd H1 p (.lst vs) p = some (.lst (xs.map (ATy.val (n + 1))))
      rw [upd_same, q2]
    · exact h1.elim
/-! ### is a list empty? -/
@[simp] def truD (a : ED) : TD := fun ρ => (a ρ).bind fun r => match r.dat with
  | .bool b => .ok b
  | .list ds => .ok (!ds.isEmpty)
  | _ => .st
theorem st_tru {a : Expr} {da : ED} (ha : SE X E C a da) (he : ∀ whole, isTrue a X.env whole = (do let v ← whole; standAt a.pos; holding [v] (truthy v)) := by intro _; rfl) : ST X E C a (truD da) := by
  obtain ⟨ta, pa, sa⟩ := ha
  refine ⟨_, pt_truth pa he, ?_⟩
  intro G0 H0 G H σ ρ Q I h
  refine sa.use famT I h fun r1 x G1 H1 e1 g1 I1 k1 h1 => ?_
  have k := k1.rp I1.s
  split at h1
  · rename_i b e
    rw [e] at k
    cases k
    exact ⟨b, rfl, h1 G1 H1 (Grow.refl I1.s)⟩
  · rename_i ds e
    rw [e] at k
    cases k with
    | lst q1 q2 =>
      rename_i vs
      refine ⟨!ds.isEmpty, .inl ⟨_, SqL.of q1, ?_⟩, h1 G1 H1 (Grow.refl I1.s)⟩
      cases q2 <;> rfl
  · exact h1.elim
/-! ### over a tuple -/
@[simp] def itT (e : ED) : LD := fun ρ => (e ρ).bind fun r => match r with
  | .im (.tuple ds) => .ok ds
  | _ => .st
theorem walks_tup {K : PySem.W.Frag} {G : Hp} {a : Addr} {vs : List V} {ds : List PD} {S : Hp → Prop} (hS : ∀ H, S H → SqT K H a vs ∧ Same G H) (r : RpA K G vs ds) : Walks K (Itt K a) G ds S := by
  intro i H hs
  obtain ⟨h1, s⟩ := hS H hs
  refine ⟨fun hi => ⟨vs, h1, by rw [r.length]; exact hi⟩, fun d hd => ?_⟩
  obtain ⟨v, hv, rv⟩ := r.getD hd
  refine ⟨⟨vs, v, h1, hv⟩, fun v' H' hy => ?_⟩
  obtain ⟨rfl, hy⟩ := hy
  have e : vs[i]? = some v' := hy vs h1
  rw [hv] at e
  cases e
  exact fun G' s1 s2 => ⟨G', Grow.refl s2, rv.up s1⟩
theorem si_tupl {tg e : Expr} {d : ED} (he : SE X E C e d) : SI X E C tg e (itT d) := by
  obtain ⟨te, pe, se⟩ := he
  refine ⟨_, pi_tup pe, fun G0 H0 G H σ ρ Q I h => ?_⟩
  refine se.use (P := ItOk X.K E C (fun G' _ H2 => Same G' H2) Q) famI I h fun r x G1 H1 e1 g1 I1 k1 h1 => ?_
  split at h1
  · rename_i ds
    cases k1 with
    | tup h2 h3 => exact ⟨_, rfl, ⟨_, SqT.of (I1.s _ _ h2)⟩, h1 _ G1 H1 (Grow.refl I1.s) (walks_tup (fun H hs => ⟨SqT.of (hs _ _ h2), hs⟩) h3)⟩
  · exact h1.elim
/-! ### xs[::-1] -/
theorem RpA.rev {K : PySem.W.Frag} {G : Hp} : ∀ (ds : List PD) (vs : List V), RpA K G vs ds → RpA K G vs.reverse ds.reverse
  | [], _, h => by cases h; exact .nil
  | d :: ds, _, h => by
    cases h with
    | cons a b =>
      rw [List.reverse_cons, List.reverse_cons]
      exact (RpA.rev ds _ b).append (.cons a .nil)
@[simp] def revD (a : ED) : ED := fun ρ => (a ρ).bind fun r => match kidsS r.fz with
  | some ds => .ok (.fr 0 ds.reverse)
  | none => .st
theorem se_rev {e : Expr} {d : ED} {k : Nat} {p1 p2 p3 pos : Pos} (he : SE X E C e d) : SE X E C (.Subscript e (.Slice none none (some (.UnaryOp .USub (.Constant (.int 1) k p1) p2)) p3) pos) (revD d) := by
  obtain ⟨te, pe, se⟩ := he
  refine ⟨_, pe_revL pe, ?_⟩
  intro G0 H0 G H σ ρ Q I h
  refine se.useF famO I h fun r x G1 H1 e1 g1 I1 k1 h1 => ?_
  split at h1
  · rename_i ds q
    obtain ⟨a, vs, rfl, h2, h3⟩ := k1.kidsS I1.s q
    exact ⟨a, vs, rfl, h2, fun p hp => h1 _ G1 _ (Grow.new I1.s hp) (fresh_list (RpA.rev _ _ h3) hp I1.s)⟩
  · exact h1.elim
/-! ### xs.index(e) -/
def indexF (ds : List PD) (d : PD) : Option PD := if shp (.list ds) && shp d then (ds.findIdx? fun z => PyData.eqv z d).map fun j => .int (j : Nat) else none
def indexD (o e : ED) : ED := fun ρ => (o ρ).bind fun r => match r.dat with
  | .list ds => (e ρ).bind fun r2 => (match indexF ds r2.dat with
    | some d => .ok (.im d)
    | none => .st)
  | _ => .st
theorem se_index {o e : Expr} {d1 d2 : ED} {apos cpos : Pos} (hu : X.A.units + 65 < cLine) (ho : SE X E C o d1) (he : SE X E C e d2)
    (hp : ∀ to t, PE X o to → PA X [e] t → PE X (.Call (.Attribute o "index" apos) [e] [] cpos) (tBM X.K "list" (rIndexD X.K) to t)) (hst : starEach [e] X.env = (false, eval e X.env) :: starEach [] X.env := by rfl) :
    SE X E C (.Call (.Attribute o "index" apos) [e] [] cpos) (indexD d1 d2) := by
  obtain ⟨to, po, so⟩ := ho
  obtain ⟨te, pe, se⟩ := he
  refine ⟨_, hp _ _ po (pa_cons pe pa_nil hst), ?_⟩
  intro G0 H0 G H σ ρ Q I h
  refine so.use famO I h fun r1 x G1 H1 e1 g1 I1 k1 h1 => ?_
  have kx := k1.rp I1.s
  split at h1
  · rename_i ds ed
    rw [ed] at kx
    obtain ⟨a, vs, rfl, hs⟩ : ∃ a vs, x = .ref a ∧ SqL X.K H1 a vs := by
      cases kx with
      | lst q1 q2 => exact ⟨_, _, rfl, SqL.of q1⟩
    refine ⟨.inl ⟨rfl, vs, hs⟩, ?_⟩
    refine se.use famO I1 h1 fun r2 y G2 H2 e2 g2 I2 k2 h2 => ?_
    have ky := k2.rp I2.s
    cases ei : indexF ds r2.dat with
    | none => rw [ei] at h2; exact h2.elim
    | some z =>
      rw [ei] at h2
      unfold indexF at ei
      split at ei
      · rename_i c
        simp only [Bool.and_eq_true] at c
        simp only [Option.map_eq_some_iff] at ei
        obtain ⟨j, ej, rfl⟩ := ei
        rw [List.findIdx?_eq_some_iff_getElem] at ej
        obtain ⟨jl, jt, jn⟩ := ej
        have c1 := c.1
        have c2 := c.2
        simp only [shp, Bool.and_eq_true] at c1 c2
        have kx2 : Rp X.K H2 (.ref a) (.list ds) := kx.up g2.h
        refine ⟨a, y, r2.dat, ds, j, ds[j], rfl, rfl, kx2.dp _ _ c1.1, ky.dp _ _ c2.1, c1.2, c2.2, by simp [jl], jt, fun m z' hm hz => ?_, h2 _ G2 H2 (Grow.refl I2.s) (.int _)⟩
        have ml : m < ds.length := by omega
        rw [List.getElem?_eq_getElem ml] at hz
        cases hz
        have := jn m hm
        simpa using this
      · cases ei
  · exact h1.elim
end
end Z

/-! ## ZG -/
set_option Elab.async false
set_option linter.all false
set_option maxRecDepth 100000
set_option maxHeartbeats 2000000
namespace Z
open PySem PySem.Spec PyProof.Rows L2
section
variable {X : Cx} {E : XK} {C : CM}
/-! ### what is never reached -/
theorem se_stuck {e : Expr} : SE X E C e (fun _ => .st) := ⟨fun _ _ _ => False, ⟨fun _ _ _ _ _ _ h => h.elim⟩, fun _ _ _ _ _ _ _ _ h => h⟩
theorem ss_stuck {s : Stmt} : SS X E C s (fun _ => .st) := ⟨fun _ _ _ => False, ⟨fun _ _ _ _ _ _ h => h.elim⟩, fun _ _ _ _ _ _ _ _ h => h⟩
theorem sb_stuck {s : List Stmt} : SB X E C s (fun _ => .st) := ⟨fun _ _ _ => False, ⟨fun _ _ _ _ _ _ h => h.elim⟩, fun _ _ _ _ _ _ _ _ h => h⟩
end

/-! ### expressions that change entries -/
inductive OX where
  | ok (r : R) (ρ : Env)
  | ex (c : String) (ρ : Env)
  | st
abbrev EX := Env → OX
inductive OTX where
  | ok (b : Bool) (ρ : Env)
  | ex (c : String) (ρ : Env)
  | st
abbrev TX := Env → OTX
/-- a result whose lists are those of F -/
def XR (K : PySem.W.Frag) (G H : Hp) (F : List Addr) : R → V → Prop
  | .im d, v => Rp K G v d
  | .ro _ _, _ => False
  | .fr n t, v => ∃ x : ATy (n + 1), ATy.era (n + 1) x = t ∧ ATy.val (n + 1) x = v ∧ ATy.ok K G H (n + 1) x ∧ ATy.nd (n + 1) x ∧ ∀ a ∈ ATy.adr (n + 1) x, a ∈ F
def XOk (K : PySem.W.Frag) (E : XK) (C : CM) (G0 H0 G : Hp) (σ : L2.St) (Q : VK) : OX → Prop
  | .ok r ρ => ∀ v G' H' F, Same G G' → EnvR K G0 H0 G' H' σ ρ F → XR K G' H' F r v → Q v H'
  | .ex c ρ => ∀ G' H', Same G G' → EnvOk K G0 H0 G' H' σ ρ → E (C c) none H'
  | .st => False
def XTOk (K : PySem.W.Frag) (E : XK) (C : CM) (G0 H0 G : Hp) (σ : L2.St) (Q : Bool → Hp → Prop) : OTX → Prop
  | .ok b ρ => ∀ G' H', Same G G' → EnvOk K G0 H0 G' H' σ ρ → Q b H'
  | .ex c ρ => ∀ G' H', Same G G' → EnvOk K G0 H0 G' H' σ ρ → E (C c) none H'
  | .st => False
def SimX (K : PySem.W.Frag) (E : XK) (C : CM) (te : TE) (d : EX) : Prop := ∀ G0 H0 G H σ ρ (Q : VK), EnvOk K G0 H0 G H σ ρ → XOk K E C G0 H0 G σ Q (d ρ) → te σ H Q
def SimXT (K : PySem.W.Frag) (E : XK) (C : CM) (tt : TT) (d : TX) : Prop := ∀ G0 H0 G H σ ρ (Q : Bool → Hp → Prop), EnvOk K G0 H0 G H σ ρ → XTOk K E C G0 H0 G σ Q (d ρ) → tt σ H Q
structure SX (X : Cx) (E : XK) (C : CM) (e : Expr) (d : EX) : Prop where
  p : ∃ te, PE X e te ∧ SimX X.K E C te d
structure STX (X : Cx) (E : XK) (C : CM) (e : Expr) (d : TX) : Prop where
  p : ∃ te, PT X e te ∧ SimXT X.K E C te d
structure SWX (X : Cx) (E : XK) (C : CM) (e : Expr) (d : TX) : Prop where
  p : ∃ te, PW X e te ∧ SimXT X.K E C te d
section
variable {K : PySem.W.Frag} {E : XK} {C : CM} {G0 H0 G G' H : Hp} {σ : L2.St} {ρ : Env} {F : List Addr}
theorem XOk.up {Q : VK} {o : OX} (h : XOk K E C G0 H0 G σ Q o) (s : Same G G') : XOk K E C G0 H0 G' σ Q o := by
  cases o with
  | ok r ρ => exact fun v G2 H2 F s2 I x => h v G2 H2 F (s.trans s2) I x
  | ex c ρ => exact fun G2 H2 s2 I => h G2 H2 (s.trans s2) I
  | st => exact h
theorem XTOk.up {Q : Bool → Hp → Prop} {o : OTX} (h : XTOk K E C G0 H0 G σ Q o) (s : Same G G') : XTOk K E C G0 H0 G' σ Q o := by
  cases o with
  | ok r ρ => exact fun G2 H2 s2 I => h G2 H2 (s.trans s2) I
  | ex c ρ => exact fun G2 H2 s2 I => h G2 H2 (s.trans s2) I
  | st => exact h
/-- what is new becomes known for ever -/
theorem EnvR.fz {n : Nat} {t : Ty (n + 1)} {v : V} (I : EnvR K G0 H0 G H σ ρ F) (h : XR K G H F (.fr n t) v) : ∃ G', Same G G' ∧ EnvOk K G0 H0 G' H σ ρ ∧ Rp K G' v (Ty.dat (n + 1) t) := by
  obtain ⟨len, b, w, hw, hF⟩ := I
  obtain ⟨x, x1, x2, x3, x4, x5⟩ := h
  have hs : Same G (know G H (ATy.adr (n + 1) x)) := know_same b.s fun a ha => (hF a (x5 a ha)).2.1
  refine ⟨know G H (ATy.adr (n + 1) x), hs, ⟨len, ⟨b.g.trans hs, b.h, know_heap b.s, fun a o h1 h2 h3 => ?_⟩, w, fun j e he => ?_⟩, ?_⟩
  · by_cases h : a ∈ ATy.adr (n + 1) x
    · rw [(hF a (x5 a h)).2.2] at h1; cases h1
    · rw [know_out h]; exact b.m a o h1 h2 h3
  · have h := hw j e he
    cases e with
    | no => trivial
    | im d => obtain ⟨v, e1, e2⟩ := h; exact ⟨v, e1, e2.up hs⟩
    | vv v => exact h
    | ob a C fs =>
      obtain ⟨z1, z2, z3, dx, vs, z4, z5⟩ := h
      refine ⟨z1, z2, ⟨?_, z3.2⟩, dx, vs, z4, z5.up hs⟩
      rw [know_out]
      · exact z3.1
      · intro q
        have e1 := (hF a (x5 a q)).1
        rw [z2] at e1
        cases e1
    | ow m u =>
      obtain ⟨y, y1, y2, y3, y4, y5⟩ := h
      refine ⟨y, y1, y2, ATy.ok_mono hs (Same.refl _) _ _ y3, y4, fun a ha => ⟨(y5 a ha).1, ?_, (y5 a ha).2.2⟩⟩
      rw [know_out]
      · exact (y5 a ha).2.1
      · intro q
        have e1 := (hF a (x5 a q)).1
        rw [(y5 a ha).1] at e1
        cases e1
  · subst x1; subst x2
    exact ATy.known (n + 1) x (fun a ha => know_in ha) hs x3
theorem EnvR.fzR {r : R} {v : V} (I : EnvR K G0 H0 G H σ ρ F) (h : XR K G H F r v) : ∃ G', Same G G' ∧ EnvOk K G0 H0 G' H σ ρ ∧ Rp K G' v r.dat := by
  cases r with
  | im d => exact ⟨G, Same.refl _, I.ok, h⟩
  | ro n t => exact h.elim
  | fr n t => exact I.fz h
/-- a new owned list at i -/
theorem EnvR.setFr {n : Nat} {t : Ty (n + 1)} {v : V} (I : EnvR K G0 H0 G H σ ρ F) (h : XR K G H F (.fr n t) v) (i : Nat) : EnvOk K G0 H0 G H (σ.set i (some v)) (ρ.set i (.ow n t)) := by
  obtain ⟨len, b, w, hw, hF⟩ := I
  obtain ⟨x, x1, x2, x3, x4, x5⟩ := h
  refine ⟨by simp [len], b, fun a => if a ∈ ATy.adr (n + 1) x then some i else w a, fun j e he => ?_⟩
  by_cases c : i = j
  · subst c
    by_cases hi : i < ρ.length
    · rw [List.getElem?_set_self hi] at he
      cases he
      rw [getD_set_self (by omega)]
      exact ⟨x, by rw [x2], x1, x3, x4, fun a ha => ⟨if_pos ha, (hF a (x5 a ha)).2⟩⟩
    · rw [List.getElem?_eq_none (by simp; omega)] at he
      cases he
  · rw [List.getElem?_set_ne c] at he
    rw [getD_set_ne c]
    have h := hw j e he
    cases e with
    | no => trivial
    | im d => exact h
    | vv v => exact h
    | ob a C fs =>
      obtain ⟨z1, z2, z3⟩ := h
      refine ⟨z1, ?_, z3⟩
      show (if a ∈ ATy.adr (n + 1) x then some i else w a) = some j
      rw [if_neg]
      · exact z2
      · intro q
        have e1 := (hF a (x5 a q)).1
        rw [z2] at e1
        cases e1
    | ow m u =>
      obtain ⟨y, y1, y2, y3, y4, y5⟩ := h
      refine ⟨y, y1, y2, y3, y4, fun a ha => ⟨?_, (y5 a ha).2⟩⟩
      show (if a ∈ ATy.adr (n + 1) x then some i else w a) = some j
      rw [if_neg]
      · exact (y5 a ha).1
      · intro q
        have e1 := (hF a (x5 a q)).1
        rw [(y5 a ha).1] at e1
        cases e1
/-- the heap without some lists -/
def less (H : Hp) (as : List Addr) : Hp := fun a => if a ∈ as then none else H a
theorem less_in {as : List Addr} {a : Addr} (h : a ∈ as) : less H as a = none := if_pos h
theorem less_out {as : List Addr} {a : Addr} (h : a ∉ as) : less H as a = H a := if_neg h
theorem less_same {as : List Addr} : Same (less H as) H := fun a o e => by
  by_cases h : a ∈ as
  · rw [less_in h] at e; cases e
  · rw [less_out h] at e; exact e
theorem same_less {as : List Addr} (s : Same G H) (h : ∀ a ∈ as, G a = none) : Same G (less H as) := fun a o e => by
  rw [less_out (fun q => by rw [h a q] at e; cases e)]
  exact s _ _ e
theorem EnvR.less (I : EnvR K G0 H0 G H σ ρ F) : EnvOk K G0 H0 G (Z.less H F) σ ρ := by
  obtain ⟨len, b, w, hw, hF⟩ := I
  refine ⟨len, ⟨b.g, same_less b.h fun a ha => (hF a ha).2.2, same_less b.s fun a ha => (hF a ha).2.1, b.m⟩, w, fun j e he => ?_⟩
  have h := hw j e he
  cases e with
  | no => trivial
  | im d => exact h
  | vv v => exact h
  | ob a C fs =>
    obtain ⟨z1, z2, z3, dx, vs, z4, z5⟩ := h
    refine ⟨z1, z2, z3, dx, vs, ?_, z5⟩
    rw [less_out]
    · exact z4
    · intro q
      have e1 := (hF a q).1
      rw [z2] at e1
      cases e1
  | ow m u =>
    obtain ⟨y, y1, y2, y3, y4, y5⟩ := h
    refine ⟨y, y1, y2, ATy.ok_keep (Same.refl _) _ _ (fun a ha => less_out fun q => ?_) y3, y4, y5⟩
    have e1 := (hF a q).1
    rw [(y5 a ha).1] at e1
    cases e1
end
/-! #### pieces -/
@[simp] def pureX (d : ED) : EX := fun ρ => match d ρ with
  | .ok (.im d) => .ok (.im d) ρ
  | .ok (.fr n t) => .ok (.fr n t) ρ
  | .ok (.ro _ _) => .st
  | .ex c => .ex c ρ
  | .st => .st
@[simp] def pureT (d : TD) : TX := fun ρ => match d ρ with
  | .ok b => .ok b ρ
  | .ex c => .ex c ρ
  | .st => .st
section
variable {X : Cx} {E : XK} {C : CM}
theorem sx_pure {e : Expr} {d : ED} (he : SE X E C e d) : SX X E C e (pureX d) := by
  obtain ⟨te, pe, se⟩ := he
  refine ⟨te, pe, fun G0 H0 G H σ ρ Q I h => se G0 H0 G H σ ρ Q I ?_⟩
  simp only [pureX] at h
  cases e : d ρ with
  | ok r =>
    rw [e] at h
    cases r with
    | im d => exact fun v G' H' g hr => h v G' H' [] g.g (I.grow g).r hr
    | ro n t => exact h.elim
    | fr n t =>
      intro v G' H' g hr
      obtain ⟨x, e1, e2, e3, e4, e5⟩ := hr
      exact h v G' H' (ATy.adr (n + 1) x) g.g (I.fresh g fun a ha => e5 a ha) ⟨x, e1, e2, e3, e4, fun a ha => ha⟩
  | ex c => rw [e] at h; exact fun G' H' g => h G' H' g.g (I.grow g)
  | st => rw [e] at h; exact h
theorem sx_purt {e : Expr} {d : TD} (he : ST X E C e d) : STX X E C e (pureT d) := by
  obtain ⟨te, pe, se⟩ := he
  refine ⟨te, pe, fun G0 H0 G H σ ρ Q I h => se G0 H0 G H σ ρ Q I ?_⟩
  simp only [pureT] at h
  cases e : d ρ with
  | ok r => rw [e] at h; exact fun G' H' g => h G' H' g.g (I.grow g)
  | ex c => rw [e] at h; exact fun G' H' g => h G' H' g.g (I.grow g)
  | st => rw [e] at h; exact h
/-- a value that is True or False, as a test -/
@[simp] def tstX (d : EX) : TX := fun ρ => match d ρ with
  | .ok (.im (.bool b)) ρ' => .ok b ρ'
  | .ex c ρ' => .ex c ρ'
  | _ => .st
theorem sx_val {a : Expr} {da : EX} (ha : SX X E C a da) (he : ∀ whole, isTrue a X.env whole = (do let v ← whole; standAt a.pos; holding [v] (truthy v)) := by intro _; rfl) : STX X E C a (tstX da) := by
  obtain ⟨ta, pa, sa⟩ := ha
  refine ⟨_, pt_val pa he, fun G0 H0 G H σ ρ Q I h => sa G0 H0 G H σ ρ _ I ?_⟩
  simp only [tstX] at h
  cases e : da ρ with
  | ok r ρ' =>
    rw [e] at h
    cases r with
    | im d =>
      cases d with
      | bool b =>
        intro v G' H' F s I' hr
        cases hr
        exact ⟨b, rfl, h G' H' s I'.ok⟩
      | _ => exact h.elim
    | _ => exact h.elim
  | ex c ρ' => rw [e] at h; exact h
  | st => rw [e] at h; exact h
@[simp] def notX (d : TX) : TX := fun ρ => match d ρ with
  | .ok b ρ' => .ok (!b) ρ'
  | .ex c ρ' => .ex c ρ'
  | .st => .st
theorem sx_not {a : Expr} {da : TX} {pos : Pos} (ha : STX X E C a da) : STX X E C (.UnaryOp .Not a pos) (notX da) := by
  obtain ⟨ta, pa, sa⟩ := ha
  refine ⟨_, pt_not pa, fun G0 H0 G H σ ρ Q I h => sa G0 H0 G H σ ρ _ I ?_⟩
  simp only [notX] at h
  cases e : da ρ with
  | ok b ρ' => rw [e] at h; exact h
  | ex c ρ' => rw [e] at h; exact h
  | st => rw [e] at h; exact h
@[simp] def andX (a b : TX) : TX := fun ρ => match a ρ with
  | .ok true ρ' => b ρ'
  | .ok false ρ' => .ok false ρ'
  | .ex c ρ' => .ex c ρ'
  | .st => .st
@[simp] def orX (a b : TX) : TX := fun ρ => match a ρ with
  | .ok false ρ' => b ρ'
  | .ok true ρ' => .ok true ρ'
  | .ex c ρ' => .ex c ρ'
  | .st => .st
theorem swx_and {a b : Expr} {rest : List Expr} {da db : TX} {pos : Pos} (ha : STX X E C a da) (hb : SWX X E C (.BoolOp .And (b :: rest) pos) db) : SWX X E C (.BoolOp .And (a :: b :: rest) pos) (andX da db) := by
  obtain ⟨ta, pa, sa⟩ := ha
  obtain ⟨tb, pb, sb⟩ := hb
  refine ⟨_, pw_and pa pb, fun G0 H0 G H σ ρ Q I h => sa G0 H0 G H σ ρ _ I ?_⟩
  simp only [andX] at h
  cases e : da ρ with
  | ok b ρ' =>
    rw [e] at h
    intro G' H' s I'
    cases b with
    | true => exact sb G0 H0 G' H' σ ρ' Q I' (XTOk.up h s)
    | false => exact h G' H' s I'
  | ex c ρ' => rw [e] at h; exact h
  | st => rw [e] at h; exact h
theorem swx_or {a b : Expr} {rest : List Expr} {da db : TX} {pos : Pos} (ha : STX X E C a da) (hb : SWX X E C (.BoolOp .Or (b :: rest) pos) db) : SWX X E C (.BoolOp .Or (a :: b :: rest) pos) (orX da db) := by
  obtain ⟨ta, pa, sa⟩ := ha
  obtain ⟨tb, pb, sb⟩ := hb
  refine ⟨_, pw_or pa pb, fun G0 H0 G H σ ρ Q I h => sa G0 H0 G H σ ρ _ I ?_⟩
  simp only [orX] at h
  cases e : da ρ with
  | ok b ρ' =>
    rw [e] at h
    intro G' H' s I'
    cases b with
    | false => exact sb G0 H0 G' H' σ ρ' Q I' (XTOk.up h s)
    | true => exact h G' H' s I'
  | ex c ρ' => rw [e] at h; exact h
  | st => rw [e] at h; exact h
theorem swx_and1 {a : Expr} {da : TX} {pos : Pos} (ha : STX X E C a da) : SWX X E C (.BoolOp .And [a] pos) da := by
  obtain ⟨ta, pa, sa⟩ := ha
  exact ⟨_, pw_and1 pa, sa⟩
theorem swx_or1 {a : Expr} {da : TX} {pos : Pos} (ha : STX X E C a da) : SWX X E C (.BoolOp .Or [a] pos) da := by
  obtain ⟨ta, pa, sa⟩ := ha
  exact ⟨_, pw_or1 pa, sa⟩
theorem SWX.t {a : Expr} {da : TX} (ha : SWX X E C a da) : STX X E C a da := by
  obtain ⟨ta, pa, sa⟩ := ha
  exact ⟨_, pa.pt, sa⟩
/-- a and b, as a value: a True or False -/
@[simp] def andVX (a b : EX) : EX := fun ρ => match a ρ with
  | .ok (.im (.bool true)) ρ' => b ρ'
  | .ok (.im (.bool false)) ρ' => .ok (.im (.bool false)) ρ'
  | .ex c ρ' => .ex c ρ'
  | _ => .st
@[simp] def orVX (a b : EX) : EX := fun ρ => match a ρ with
  | .ok (.im (.bool false)) ρ' => b ρ'
  | .ok (.im (.bool true)) ρ' => .ok (.im (.bool true)) ρ'
  | .ex c ρ' => .ex c ρ'
  | _ => .st
theorem sx_and {a b : Expr} {rest : List Expr} {da db : EX} {pos : Pos} (ha : SX X E C a da) (hb : SX X E C (.BoolOp .And (b :: rest) pos) db) : SX X E C (.BoolOp .And (a :: b :: rest) pos) (andVX da db) := by
  obtain ⟨ta, pa, sa⟩ := ha
  obtain ⟨tb, pb, sb⟩ := hb
  refine ⟨_, pe_and pa pb, fun G0 H0 G H σ ρ Q I h => sa G0 H0 G H σ ρ _ I ?_⟩
  simp only [andVX] at h
  cases e : da ρ with
  | ok r ρ' =>
    rw [e] at h
    cases r with
    | im d =>
      cases d with
      | bool b =>
        intro v G' H' F s I' hr
        cases hr
        cases b with
        | true => exact ⟨true, rfl, sb G0 H0 G' H' σ ρ' Q I'.ok (XOk.up h s)⟩
        | false => exact ⟨false, rfl, h _ G' H' [] s I'.ok.r (.bl false)⟩
      | _ => exact h.elim
    | _ => exact h.elim
  | ex c ρ' => rw [e] at h; exact h
  | st => rw [e] at h; exact h
theorem sx_or {a b : Expr} {rest : List Expr} {da db : EX} {pos : Pos} (ha : SX X E C a da) (hb : SX X E C (.BoolOp .Or (b :: rest) pos) db) : SX X E C (.BoolOp .Or (a :: b :: rest) pos) (orVX da db) := by
  obtain ⟨ta, pa, sa⟩ := ha
  obtain ⟨tb, pb, sb⟩ := hb
  refine ⟨_, pe_or pa pb, fun G0 H0 G H σ ρ Q I h => sa G0 H0 G H σ ρ _ I ?_⟩
  simp only [orVX] at h
  cases e : da ρ with
  | ok r ρ' =>
    rw [e] at h
    cases r with
    | im d =>
      cases d with
      | bool b =>
        intro v G' H' F s I' hr
        cases hr
        cases b with
        | false => exact ⟨false, rfl, sb G0 H0 G' H' σ ρ' Q I'.ok (XOk.up h s)⟩
        | true => exact ⟨true, rfl, h _ G' H' [] s I'.ok.r (.bl true)⟩
      | _ => exact h.elim
    | _ => exact h.elim
  | ex c ρ' => rw [e] at h; exact h
  | st => rw [e] at h; exact h
theorem sx_one {op} {a : Expr} {da : EX} {pos : Pos} (ha : SX X E C a da) : SX X E C (.BoolOp op [a] pos) da := by
  obtain ⟨ta, pa, sa⟩ := ha
  exact ⟨_, pe_one pa, sa⟩
/-- an expression that changes entries, then an operator, then a pure one -/
@[simp] def binX (f : PD → PD → Option PD) (a : EX) (b : ED) : EX := fun ρ => match a ρ with
  | .ok r ρ' => match b ρ' with
    | .ok r2 => match f r.dat r2.dat with
      | some d => .ok (.im d) ρ'
      | none => .st
    | .ex c => .ex c ρ'
    | .st => .st
  | .ex c ρ' => .ex c ρ'
  | .st => .st
theorem sim_binX {K : PySem.W.Frag} {r : R2} {f : PD → PD → Option PD} {ta tb : TE} {a : EX} {b : ED} (l : Lk2 K r f) (ha : SimX K E C ta a) (hb : SimE K E C tb b) : SimX K E C (tOp r ta tb) (binX f a b) := by
  intro G0 H0 G H σ ρ Q I h
  refine ha G0 H0 G H σ ρ _ I ?_
  simp only [binX] at h
  cases e : a ρ with
  | ok r1 ρ' =>
    rw [e] at h
    intro v G1 H1 F s1 IR hr
    obtain ⟨G2, s2, I2, rp⟩ := IR.fzR hr
    refine hb G0 H0 G2 H1 σ ρ' _ I2 ?_
    simp only at h
    cases e2 : b ρ' with
    | ok r2 =>
      rw [e2] at h
      intro y G3 H3 g3 hy
      simp only at h
      cases e3 : f r1.dat r2.dat with
      | none => rw [e3] at h; exact h.elim
      | some z =>
        rw [e3] at h
        have I3 := I2.grow g3
        obtain ⟨u, eu, hr⟩ := l H3 v y _ _ z Q ((rp.up I2.s).up g3.h) (hy.rp I3.s) e3
        exact hr (h u G3 H3 [] ((s1.trans s2).trans g3.g) I3.r (rp_sc eu))
    | ex c => rw [e2] at h; exact fun G3 H3 g3 => h G3 H3 ((s1.trans s2).trans g3.g) (I2.grow g3)
    | st => rw [e2] at h; exact h
  | ex c ρ' => rw [e] at h; exact h
  | st => rw [e] at h; exact h
theorem sx_cmp {op : CmpOp} {r : R2} {f : PD → PD → Option PD} {a b : Expr} {da : EX} {db : ED} {pos : Pos} (ho : OpR X (compareOp op) r) (l : Lk2 X.K r f) (ha : SX X E C a da) (hb : SE X E C b db) (hm : behindInMarks op b = false) : SX X E C (.Compare a [op] [b] pos) (binX f da db) := by
  obtain ⟨ta, pa, sa⟩ := ha
  obtain ⟨tb, pb, sb⟩ := hb
  exact ⟨_, pe_cmpR ho pa pb hm, sim_binX l sa sb⟩
theorem stx_cmp {op : CmpOp} {r : R2} {f : PD → PD → Option PD} {a b : Expr} {da : EX} {db : ED} {pos : Pos} (ho : OpR X (compareOp op) r) (l : Lk2 X.K r f) (ha : SX X E C a da) (hb : SE X E C b db) (hm : behindInMarks op b = false) : STX X E C (.Compare a [op] [b] pos) (tstX (binX f da db)) := by
  obtain ⟨ta, pa, sa⟩ := ha
  obtain ⟨tb, pb, sb⟩ := hb
  refine ⟨_, pt_cmpR ho pa pb hm, fun G0 H0 G H σ ρ Q I h => sim_binX l sa sb G0 H0 G H σ ρ _ I ?_⟩
  simp only [tstX] at h
  cases e : binX f da db ρ with
  | ok r ρ' =>
    rw [e] at h
    cases r with
    | im d =>
      cases d with
      | bool b =>
        intro v G' H' F s I' hr
        cases hr
        exact ⟨b, rfl, h G' H' s I'.ok⟩
      | _ => exact h.elim
    | _ => exact h.elim
  | ex c ρ' => rw [e] at h; exact h
  | st => rw [e] at h; exact h

/-! #### statements -/
def asgX (i : Nat) (d : EX) : SD := fun ρ => match d ρ with
  | .ok (.im d) ρ' => .nx (ρ'.set i (.im d))
  | .ok (.fr n t) ρ' => .nx (ρ'.set i (.ow n t))
  | .ok (.ro _ _) _ => .st
  | .ex c ρ' => .ev c ρ'
  | .st => .st
theorem ss_asgX {x : Str} {e : Expr} {d : EX} {pos' pos : Pos} (i : Nat) (hN : X.N.Nodup) (hx : Loc X.env.scope x) (he : SX X E C e d) (hi : X.N[i]? = some x := by rfl) (hs : swapsWith e (some (.Name x pos')) pos.line X.env = pure false := by rfl) (hf : X.fn x = true ∨ X.env.scope.names.lookup x = some .local := by first | exact .inl rfl | exact .inr rfl | assumption) :
    SS X E C (.Assign [.Name x pos'] e pos) (asgX i d) := by
  obtain ⟨te, pe, se⟩ := he
  refine ⟨_, ps_asg pe (pg_name hN hi hx hf) hs, fun G0 H0 G H σ ρ D I h => se G0 H0 G H σ ρ _ I ?_⟩
  unfold asgX at h
  cases e : d ρ with
  | ok r ρ' =>
    rw [e] at h
    cases r with
    | im d => exact fun v G' H' F s I' hr => h _ G' H' s (I'.ok.setIm i hr)
    | ro n t => exact h.elim
    | fr n t => exact fun v G' H' F s I' hr => h _ G' H' s (I'.setFr hr i)
  | ex c ρ' => rw [e] at h; exact fun G' H' s I' => h σ G' H' s I'
  | st => rw [e] at h; exact h
def exprX (d : EX) : SD := fun ρ => match d ρ with
  | .ok _ ρ' => .nx ρ'
  | .ex c ρ' => .ev c ρ'
  | .st => .st
theorem ss_exprX {e : Expr} {d : EX} {pos : Pos} (he : SX X E C e d) (hs : swapsWith e none pos.line X.env = pure false := by rfl) : SS X E C (.Expr e pos) (exprX d) := by
  obtain ⟨te, pe, se⟩ := he
  refine ⟨_, ps_expr pe hs, fun G0 H0 G H σ ρ D I h => se G0 H0 G H σ ρ _ I ?_⟩
  unfold exprX at h
  cases e : d ρ with
  | ok r ρ' => rw [e] at h; exact fun v G' H' F s I' hr => h σ G' H' s I'.ok
  | ex c ρ' => rw [e] at h; exact fun G' H' s I' => h σ G' H' s I'
  | st => rw [e] at h; exact h
def retX (d : EX) : SD := fun ρ => match d ρ with
  | .ok r ρ' => .rv r ρ'
  | .ex c ρ' => .ev c ρ'
  | .st => .st
theorem XR.rok {K : PySem.W.Frag} {G0 H0 G H : Hp} {σ : L2.St} {ρ : Env} {F : List Addr} {r : R} {v : V} (I : EnvR K G0 H0 G H σ ρ F) (h : XR K G H F r v) : ROk K H0 G H r v := by
  cases r with
  | im d => exact h
  | ro n t => exact h.elim
  | fr n t =>
    obtain ⟨x, x1, x2, x3, x4, x5⟩ := h
    obtain ⟨_, _, w, _, hF⟩ := I
    exact ⟨x, x1, x2, x3, x4, fun a ha => ⟨(hF a (x5 a ha)).2.2, (hF a (x5 a ha)).2.1⟩⟩
theorem ss_retX {e : Expr} {d : EX} {pos : Pos} (he : SX X E C e d) : SS X E C (.Return (some e) pos) (retX d) := by
  obtain ⟨te, pe, se⟩ := he
  refine ⟨_, ps_ret pe, fun G0 H0 G H σ ρ D I h => se G0 H0 G H σ ρ _ I ?_⟩
  unfold retX at h
  cases e : d ρ with
  | ok r ρ' => rw [e] at h; exact fun v G' H' F s I' hr => h v σ G' H' s I'.ok (hr.rok I')
  | ex c ρ' => rw [e] at h; exact fun G' H' s I' => h σ G' H' s I'
  | st => rw [e] at h; exact h
def ifX (t : TX) (a b : SD) : SD := fun ρ => match t ρ with
  | .ok true ρ' => a ρ'
  | .ok false ρ' => b ρ'
  | .ex c ρ' => .ev c ρ'
  | .st => .st
theorem ss_ifX {c : Expr} {sa sb : List Stmt} {t : TX} {a b : SD} {pos : Pos} (hc : STX X E C c t) (ha : SB X E C sa a) (hb : SB X E C sb b) : SS X E C (.If c sa sb pos) (ifX t a b) := by
  obtain ⟨tc, pc, sc⟩ := hc
  obtain ⟨ta, pa, sa⟩ := ha
  obtain ⟨tb, pb, sb⟩ := hb
  refine ⟨_, ps_if pc pa pb, fun G0 H0 G H σ ρ D I h => sc G0 H0 G H σ ρ _ I ?_⟩
  unfold ifX at h
  cases e : t ρ with
  | ok c ρ' =>
    rw [e] at h
    intro G' H' s I'
    cases c with
    | true => exact sa G0 H0 G' H' σ ρ' D I' (SOk.up h s)
    | false => exact sb G0 H0 G' H' σ ρ' D I' (SOk.up h s)
  | ex c ρ' => rw [e] at h; exact fun G' H' s I' => h σ G' H' s I'
  | st => rw [e] at h; exact h
end
end Z

/-! ## ZH -/
set_option Elab.async false
set_option linter.all false
set_option maxRecDepth 100000
set_option maxHeartbeats 2000000
namespace Z
open PySem PySem.Spec PyProof.Rows L2
/-! ### a def that takes over its first argument, an owned list -/
def SpM (K : PySem.W.Frag) (C : CM) (k : Nat) (f : (m : Nat) → Ty (m + 1) → List PD → Out R) : Sp := fun vs H Q E => ∃ (G : Hp) (m : Nat) (x : ATy (m + 1)) (us : List V) (ds : List PD),
  vs = ATy.val (m + 1) x :: us ∧ Same G H ∧ RpA K G us ds ∧ ds.length = k ∧ ATy.ok K G H (m + 1) x ∧ ATy.nd (m + 1) x ∧ (∀ a ∈ ATy.adr (m + 1) x, G a = none) ∧ OOk K E C G (less H (ATy.adr (m + 1) x)) Q (f m (ATy.era (m + 1) x) ds)
def outS : SO → Out R
  | .nx _ => .ok (.im .none)
  | .rt r => .ok r
  | .rv r _ => .ok r
  | .ex c => .ex c
  | .ev c _ => .ex c
  | _ => .st
def denM (N k : Nat) (d : SD) : (m : Nat) → Ty (m + 1) → List PD → Out R := fun m t ds => outS (d (.ow m t :: ds.map Ent.im ++ List.replicate (N - (k + 1)) Ent.no))
theorem start_okM {K : PySem.W.Frag} {G H : Hp} {N : List Str} {vs : List V} {ds : List PD} {k m : Nat} {x : ATy (m + 1)} (s : Same G H) (r : RpA K G vs ds) (hn : ds.length = k) (hN : k + 1 ≤ N.length) (x1 : ATy.ok K G H (m + 1) x) (x2 : ATy.nd (m + 1) x) (x3 : ∀ a ∈ ATy.adr (m + 1) x, G a = none) :
    EnvOk K G (less H (ATy.adr (m + 1) x)) G H (L2.start N (ATy.val (m + 1) x :: vs)) (.ow m (ATy.era (m + 1) x) :: ds.map Ent.im ++ List.replicate (N.length - (k + 1)) Ent.no) := by
  have hl := r.length
  refine ⟨by simp [L2.start]; omega, ⟨Same.refl _, less_same, s, fun _ _ _ _ h => h⟩, fun a => if a ∈ ATy.adr (m + 1) x then some 0 else none, fun i e he => ?_⟩
  cases i with
  | zero =>
    cases he
    exact ⟨x, rfl, rfl, x1, x2, fun a ha => ⟨if_pos ha, x3 a ha, less_in ha⟩⟩
  | succ i =>
    have he : (ds.map Ent.im ++ List.replicate (N.length - (k + 1)) Ent.no)[i]? = some e := by simpa using he
    by_cases h : i < ds.length
    · rw [List.getElem?_append_left (by simpa using h)] at he
      rw [List.getElem?_map] at he
      cases q : ds[i]? with
      | none => rw [q] at he; cases he
      | some d =>
        rw [q] at he
        cases he
        obtain ⟨v, e1, e2⟩ := r.getD q
        refine ⟨v, ?_, e2⟩
        unfold L2.start
        rw [List.getD_eq_getElem?_getD, List.getElem?_append_left (by simp [hl]; omega), List.getElem?_map]
        show ((vs[i]?).map some).getD none = some v
        rw [e1]
        rfl
    · rw [List.getElem?_append_right (by simpa using h)] at he
      have e2 := List.mem_of_getElem? he
      rw [List.mem_replicate] at e2
      rw [e2.2]
      trivial
theorem SOk.out {K : PySem.W.Frag} {E : XK} {C : CM} {G0 H0 G : Hp} {Q : VK} {o : SO} (h : OOk K E C G0 H0 Q (outS o)) : SOk K E C G0 H0 G { nx := fun _ H' => Q .non H', rt := Q } o := by
  cases o with
  | nx ρ => exact fun σ G' H' _ I => h .non G' H' I.b .non
  | rt r => exact fun v G' H' g hr => h v G' H' g hr
  | rv r ρ => exact fun v σ G' H' s I hr => h v G' H' I.b hr
  | ex c => exact fun G' H' g => h G' H' g
  | ev c ρ => exact fun σ G' H' s I => h G' H' I.b
  | bk ρ => exact h.elim
  | ct ρ => exact h.elim
  | st => exact h.elim
section
variable {P : Program} {w : World} {K : PySem.W.Frag} {mg : Str → Option Value} {base : Heap} {C : CM}
theorem fnOk_ofM {x qual : Str} {params : Arguments} {body : List Stmt} {scope : Scope} {f : Addr} {fd : FuncData} {N ps : List Str} {k n : Nat} {den : SD} (F : FunD K x qual params body scope [] [] f fd) (S : FnScope N ps scope) (hn : ps.length = n + 1) (hN : n + 1 ≤ N.length)
    (hbody : ∀ (cdv : Value) (A : Around) (outer : List PySem.Env) (s : Shared) (H : Hp) (E : XK), Room k (A.deeper (envOfC qual scope s.heap.objs.size f cdv)) →
      SB (cxOf (L2N.CX P w) P w K mg base N qual scope f cdv A outer s H E) E C body den) :
    FnOk P w K mg base (L2N.CX P w) (k + 1) f fd ps (SpM K C n (denM N.length n den)) := by
  refine F.ok S (fun vs H Q E h => ?_) (fun cdv A outer s H vs Q E hr h => ?_)
  · obtain ⟨G, m, x, us, ds, rfl, s, r, l, _⟩ := h
    rw [List.length_cons, r.length, l, hn]
  · obtain ⟨G, m, x, us, ds, rfl, sm, r, l, x1, x2, x3, q⟩ := h
    obtain ⟨t, p, sim⟩ := hbody cdv A outer s H E hr
    exact ⟨t, p, sim G (less H (ATy.adr (m + 1) x)) G H _ _ _ (start_okM sm r l hN x1 x2 x3) (SOk.out q)⟩
structure CalM (P : Program) (w : World) (K : PySem.W.Frag) (mg : Str → Option Value) (base : Heap) (C : CM) (x : Str) (k n : Nat) (ps : List Str) (fn : (m : Nat) → Ty (m + 1) → List PD → Out R) : Prop where
  p : ∃ (f : Addr) (fd : FuncData), FnOk P w K mg base (L2N.CX P w) k f fd ps (SpM K C n fn) ∧ mg x = some (.ref f) ∧ PySem.W.keepIn K (.ref f) = true ∧ Binds K fd ps []
end
section
variable {X : Cx} {E : XK} {C : CM}
/-- f(y, ..): y, an owned list, goes over to f -/
def callM (f : (m : Nat) → Ty (m + 1) → List PD → Out R) (j : Nat) (a : AD) : EX := fun ρ => match ρ[j]? with
  | some (.ow m t) => match noX (a ρ) with
    | .ok rs => if rs.all R.isIm then match f m t (rs.map R.dat) with
      | .ok (.im d) => .ok (.im d) (ρ.set j .no)
      | .ok (.fr n t) => .ok (.fr n t) (ρ.set j .no)
      | .ok (.ro _ _) => .st
      | .ex c => .ex c (ρ.set j .no)
      | .st => .st
      else .st
    | _ => .st
  | _ => .st
theorem sim_callM {K : PySem.W.Frag} {n j : Nat} {f : (m : Nat) → Ty (m + 1) → List PD → Out R} {ta : TA} {a : AD} (hn : ∀ ρ rs, a ρ = .ok rs → rs.length = n) (ha : SimA K E C ta a) : SimX K E C (tCall (SpM K C n f) [] E (tCons (tVar j) ta)) (callM f j a) := by
  intro G0 H0 G H σ ρ Q I h
  unfold callM at h
  cases ej : ρ[j]? with
  | none => rw [ej] at h; exact h.elim
  | some en =>
    rw [ej] at h
    cases en with
    | ow m t =>
      simp only at h
      cases ea : a ρ with
      | ex c => rw [ea] at h; exact h.elim
      | st => rw [ea] at h; exact h.elim
      | ok rs =>
        rw [ea] at h
        simp only [noX] at h
        obtain ⟨y, y1, y2, y3, y4, yR⟩ := I.drop ej
        refine ⟨ATy.val (m + 1) y, getD_some y1, ?_⟩
        refine ha G0 H0 G H σ ρ _ I ?_
        rw [ea]
        intro vs G1 H1 g1 k1
        have I1 := I.grow g1
        obtain ⟨x, x1, x2, x3, x4, xR⟩ := I1.drop ej
        have exy : ATy.val (m + 1) y = ATy.val (m + 1) x := by
          rw [x1] at y1
          exact (Option.some.inj y1).symm
        by_cases c : rs.all R.isIm = true
        · rw [if_pos c] at h
          show SpM K C n f (ATy.val (m + 1) y :: vs ++ []) H1 Q E
          rw [List.append_nil, exy]
          have xG : ∀ b ∈ ATy.adr (m + 1) x, G1 b = none := fun b hb => by
            obtain ⟨_, _, w, _, hF⟩ := xR
            exact (hF b hb).2.1
          refine ⟨G1, m, x, vs, rs.map R.dat, rfl, I1.s, k1.ims (ims_all c), by rw [List.length_map]; exact hn _ _ ea, x3, x4, xG, ?_⟩
          rw [x2]
          have J := xR.less
          cases e : f m t (rs.map R.dat) with
          | ok r =>
            rw [e] at h
            cases r with
            | im d => exact fun v G' H' g hr => h v G' H' [] (g1.g.trans g.g) (J.grow g).r hr
            | ro n t => exact h.elim
            | fr n t =>
              intro v G' H' g hr
              obtain ⟨z, z1, z2, z3, z4, z5⟩ := hr
              exact h v G' H' (ATy.adr (n + 1) z) (g1.g.trans g.g) (J.fresh g fun a ha => z5 a ha) ⟨z, z1, z2, z3, z4, fun a ha => ha⟩
          | ex c => rw [e] at h; exact fun G' H' g => h G' H' (g1.g.trans g.g) (J.grow g)
          | st => rw [e] at h; exact h
        · rw [if_neg c] at h; exact h.elim
    | _ => exact h.elim
theorem sx_callM {k kk n j : Nat} {ps : List Str} {fn : (m : Nat) → Ty (m + 1) → List PD → Out R} {x y : Str} {es : List Expr} {a : AD} {p yp pos : Pos} (G : CalM X.prog X.w X.K X.mg X.base C x k n ps fn) (hr : Room kk X.A) (hk : k ≤ kk) (hx : Passes (L2N.CX X.prog X.w) X E)
    (hl : ALen a n) (ha : SA X E C es a) (hN : X.N[j]? = some y := by rfl) (hv : Vis X.env.scope y := by first | exact Or.inl rfl | exact Or.inr (Or.inl rfl) | exact Or.inr (Or.inr rfl)) (hd : (y == ("__debug__" : Str)) = false := by decide) (hcd : (y == ("__classdict__" : Str)) = false := by decide)
    (hg : Gl X x := by rfl) (hdb : (x == ("__debug__" : Str)) = false := by decide) (he : starEach (.Name y yp :: es) X.env = (false, eval (.Name y yp) X.env) :: starEach es X.env := by rfl) (hpl : (backTo pos (starEach es X.env)).any (·.1) = false := by rfl) :
    SX X E C (.Call (.Name x p) (.Name y yp :: es) [] pos) (callM fn j a) := by
  obtain ⟨ta, pa, sa⟩ := ha
  obtain ⟨f, fd, F, hm, hkp, hb⟩ := G.p
  exact ⟨_, pe_call F (hr.mono hk) hg hm hkp hb .nil hx (pa_cons (pe_var hN hv hd hcd) pa he) hdb he hpl, sim_callM hl.l sa⟩

/-! ### arguments of which some change entries -/
inductive OAX where
  | ok (rs : List PD) (ρ : Env)
  | ex (c : String) (ρ : Env)
  | st
abbrev AX := Env → OAX
def XAOk (K : PySem.W.Frag) (E : XK) (C : CM) (G0 H0 G : Hp) (σ : L2.St) (Q : List V → Hp → Prop) : OAX → Prop
  | .ok ds ρ => ∀ vs G' H', Same G G' → EnvOk K G0 H0 G' H' σ ρ → RpA K G' vs ds → Q vs H'
  | .ex c ρ => ∀ G' H', Same G G' → EnvOk K G0 H0 G' H' σ ρ → E (C c) none H'
  | .st => False
structure SAX (X : Cx) (E : XK) (C : CM) (es : List Expr) (d : AX) : Prop where
  p : ∃ ta, PA X es ta ∧ ∀ G0 H0 G H σ ρ (Q : List V → Hp → Prop), EnvOk X.K G0 H0 G H σ ρ → XAOk X.K E C G0 H0 G σ Q (d ρ) → ta σ H Q
@[simp] def nilX : AX := fun ρ => .ok [] ρ
@[simp] def consX (e : EX) (r : AX) : AX := fun ρ => match e ρ with
  | .ok (.ro _ _) _ => .st
  | .ok x ρ1 => match r ρ1 with
    | .ok xs ρ2 => .ok (x.dat :: xs) ρ2
    | .ex c ρ2 => .ex c ρ2
    | .st => .st
  | .ex c ρ1 => .ex c ρ1
  | .st => .st
theorem sax_nil : SAX X E C [] nilX := ⟨_, pa_nil, fun G0 H0 G H σ ρ Q I h => h [] G H (Same.refl _) I .nil⟩
theorem sax_cons {e : Expr} {es : List Expr} {d : EX} {r : AX} (he : SX X E C e d) (hr : SAX X E C es r) (hs : starEach (e :: es) X.env = (false, eval e X.env) :: starEach es X.env := by rfl) : SAX X E C (e :: es) (consX d r) := by
  obtain ⟨ta, pa, sa⟩ := he
  obtain ⟨tb, pb, sb⟩ := hr
  refine ⟨_, pa_cons pa pb hs, fun G0 H0 G H σ ρ Q I h => sa G0 H0 G H σ ρ _ I ?_⟩
  simp only [consX] at h
  cases e : d ρ with
  | ok x ρ1 =>
    rw [e] at h
    have key : ∀ o : OAX, XAOk X.K E C G0 H0 G σ Q (match o with
      | .ok xs ρ2 => .ok (x.dat :: xs) ρ2
      | .ex c ρ2 => .ex c ρ2
      | .st => .st) → o = r ρ1 → XOk X.K E C G0 H0 G σ (fun v H1 => tb σ H1 fun vs H2 => Q (v :: vs) H2) (.ok x ρ1) := by
      intro o ho eo v G1 H1 F s1 IR hr
      obtain ⟨G2, s2, I2, rp⟩ := IR.fzR hr
      refine sb G0 H0 G2 H1 σ ρ1 _ I2 ?_
      rw [← eo]
      cases o with
      | ok xs ρ2 => exact fun vs G3 H3 s3 I3 rv => ho (v :: vs) G3 H3 ((s1.trans s2).trans s3) I3 (.cons (rp.up s3) rv)
      | ex c ρ2 => exact fun G3 H3 s3 I3 => ho G3 H3 ((s1.trans s2).trans s3) I3
      | st => exact ho
    cases x with
    | ro n t => exact h.elim
    | im d => exact key _ h rfl
    | fr n t => exact key _ h rfl
  | ex c ρ1 => rw [e] at h; exact h
  | st => rw [e] at h; exact h
@[simp] def callX (f : List PD → Out R) (a : AX) : EX := fun ρ => match a ρ with
  | .ok ds ρ' => match f ds with
    | .ok (.im d) => .ok (.im d) ρ'
    | .ok (.fr n t) => .ok (.fr n t) ρ'
    | .ok (.ro _ _) => .st
    | .ex c => .ex c ρ'
    | .st => .st
  | .ex c ρ' => .ex c ρ'
  | .st => .st
structure AXLen (a : AX) (n : Nat) : Prop where
  l : ∀ ρ rs ρ', a ρ = .ok rs ρ' → rs.length = n
theorem axlen_nil : AXLen nilX 0 := ⟨fun ρ rs ρ' h => by cases h; rfl⟩
theorem axlen_cons {e : EX} {a : AX} {n : Nat} (h : AXLen a n) : AXLen (consX e a) (n + 1) := ⟨fun ρ rs ρ' q => by
  simp only [consX] at q
  cases e1 : e ρ with
  | ok r ρ1 =>
    rw [e1] at q
    cases e2 : a ρ1 with
    | ok rs2 ρ2 =>
      have hl := h.l _ _ _ e2
      cases r with
      | ro n t => cases q
      | im d => simp only [e2] at q; cases q; simp [hl]
      | fr n t => simp only [e2] at q; cases q; simp [hl]
    | ex c ρ2 => cases r <;> simp [e2] at q
    | st => cases r <;> simp [e2] at q
  | ex c ρ1 => rw [e1] at q; cases q
  | st => rw [e1] at q; cases q⟩
theorem sx_cal {k kk n : Nat} {ps : List Str} {fn : List PD → Out R} {x : Str} {e : Expr} {es : List Expr} {a : AX} {p pos : Pos} (G : Cal X.prog X.w X.K X.mg X.base C x k n ps fn) (hr : Room kk X.A) (hk : k ≤ kk) (hx : Passes (L2N.CX X.prog X.w) X E)
    (hl : AXLen a n) (ha : SAX X E C (e :: es) a) (hg : Gl X x := by rfl) (hdb : (x == ("__debug__" : Str)) = false := by decide) (he : starEach (e :: es) X.env = (false, eval e X.env) :: starEach es X.env := by rfl) (hpl : (backTo pos (starEach es X.env)).any (·.1) = false := by rfl) :
    SX X E C (.Call (.Name x p) (e :: es) [] pos) (callX fn a) := by
  obtain ⟨f, fd, F, hm, hkp, hb⟩ := G.p
  obtain ⟨ta, pa, sa⟩ := ha
  refine ⟨_, pe_call F (hr.mono hk) hg hm hkp hb .nil hx pa hdb he hpl, fun G0 H0 G H σ ρ Q I h => sa G0 H0 G H σ ρ _ I ?_⟩
  simp only [callX] at h
  cases ea : a ρ with
  | ok ds ρ' =>
    rw [ea] at h
    intro vs G1 H1 s1 I1 rv
    rw [List.append_nil]
    refine ⟨G1, ds, I1.s, rv, hl.l _ _ _ ea, ?_⟩
    simp only at h
    cases e : fn ds with
    | ok r =>
      rw [e] at h
      cases r with
      | im d => exact fun v G' H' g hr => h v G' H' [] (s1.trans g.g) (I1.grow g).r hr
      | ro n t => exact h.elim
      | fr n t =>
        intro v G' H' g hr
        obtain ⟨z, z1, z2, z3, z4, z5⟩ := hr
        exact h v G' H' (ATy.adr (n + 1) z) (s1.trans g.g) (I1.fresh g fun a ha => z5 a ha) ⟨z, z1, z2, z3, z4, fun a ha => ha⟩
    | ex c => rw [e] at h; exact fun G' H' g => h G' H' (s1.trans g.g) (I1.grow g)
    | st => rw [e] at h; exact h
  | ex c ρ' => rw [ea] at h; exact h
  | st => rw [ea] at h; exact h
end
end Z

/-! ## ZI -/
set_option Elab.async false
set_option linter.all false
set_option maxRecDepth 100000
set_option maxHeartbeats 2000000
namespace Z
open PySem PySem.Spec PyProof.Rows L2
/-! ### facts of own exception classes -/
def excCB (K : PySem.W.Frag) (D : Addr) : Bool :=
  He.eqO (PySem.W.findIn K (.ref D) "__getattribute__") (some (some (.builtin "BaseException.__getattribute__"))) && (He.eqO (PySem.W.findIn K (.ref D) "__getattr__") (some none) && (decide (PySem.W.subIn K (.ref D) (.type "BaseException") = some true) && (PySem.W.hasDictIn K D &&
  (He.eqO (PySem.W.findIn K (.ref D) "__class__") (some (some (.builtin "object.__class__"))) && (He.eqO (PySem.W.specialIn K (.builtin "object.__class__") "__get__") (some (some (.builtin "getset_descriptor.__get__"))) && (decide (PySem.W.takesIn K (.builtin "object.__class__") = some true) && decide (PySem.W.mroIn K D (.type "object") = some true)))))))
theorem excCB_ok {K : PySem.W.Frag} {D : Addr} (h : excCB K D = true) : ExcC K D := by
  obtain ⟨h1, h⟩ := He.ba h
  obtain ⟨h2, h⟩ := He.ba h
  obtain ⟨h3, h⟩ := He.ba h
  obtain ⟨h4, h⟩ := He.ba h
  obtain ⟨h5, h⟩ := He.ba h
  obtain ⟨h6, h⟩ := He.ba h
  obtain ⟨h7, h8⟩ := He.ba h
  exact ⟨He.eqO_ok h1, He.eqO_ok h2, of_decide_eq_true h3, h4, He.eqO_ok h5, He.eqO_ok h6, of_decide_eq_true h7, of_decide_eq_true h8⟩
/-- a class that is asked for: one of the text's own, or a built-in one -/
inductive Tc where
  | own (x : Str)
  | bt (x : String)
def Tc.val (K : PySem.W.Frag) : Tc → Value
  | .own x => .ref (He.ga K x)
  | .bt x => .type x
def Tc.v (K : PySem.W.Frag) : Tc → V
  | .own x => .ref (He.ga K x)
  | .bt x => .ty x
theorem Tc.cls (K : PySem.W.Frag) (t : Tc) : ClsV (t.v K) (t.val K) := by
  cases t with
  | own x => exact .own _
  | bt x => exact .ty _
/-- what is asked of a class c of exceptions: isinstance, except -/
structure Xf where
  c : Str
  isa : List (Tc × Bool)
  exm : List Str
def Xf.ok (K : PySem.W.Frag) (f : Xf) : Bool := excCB K (He.ga K f.c) && (f.isa.all (fun p => decide (PySem.W.kitOne K (.ref (He.ga K f.c)) (p.1.val K) = some p.2)) && f.exm.all fun y => decide (PySem.W.exmOne K (.ref (He.ga K f.c)) (.ref (He.ga K y)) = some true))
structure XfOk (K : PySem.W.Frag) (f : Xf) : Prop where
  C : ExcC K (He.ga K f.c)
  isa : ∀ p ∈ f.isa, PySem.W.kitOne K (.ref (He.ga K f.c)) (p.1.val K) = some p.2
  exm : ∀ y ∈ f.exm, PySem.W.exmOne K (.ref (He.ga K f.c)) (.ref (He.ga K y)) = some true
theorem Xf.of {K : PySem.W.Frag} {f : Xf} (h : f.ok K = true) : XfOk K f := by
  obtain ⟨h1, h⟩ := He.ba h
  obtain ⟨h2, h3⟩ := He.ba h
  exact ⟨excCB_ok h1, fun p hp => of_decide_eq_true (List.all_eq_true.mp h2 p hp), fun y hy => of_decide_eq_true (List.all_eq_true.mp h3 y hy)⟩
theorem kitAny_of {K : PySem.W.Frag} {t : Value} : ∀ (ps : List (Tc × Bool)), (∀ p ∈ ps, PySem.W.kitOne K t (p.1.val K) = some p.2) → PySem.W.kitAny K t (ps.map fun p => p.1.val K) = some (ps.any fun p => p.2)
  | [], _ => rfl
  | p :: ps, h => by
    have h1 := h p List.mem_cons_self
    have ih := kitAny_of ps fun q hq => h q (List.mem_cons_of_mem _ hq)
    show PySem.W.kitAny K t (p.1.val K :: ps.map fun p => p.1.val K) = _
    unfold PySem.W.kitAny
    rw [h1]
    cases e : p.2 with
    | true => simp [e]
    | false => simp [e, ih]
/-! #### the hook -/
def obsX (fa : List He.Fa) (fn : List He.DefD) (b : List Xf) (K : PySem.W.Frag) : He.AlD × Bool := (He.obsD fa fn K, b.all fun f => f.ok K)
def obsXG (n : Nat) (fa : List He.Fa) (fn : List He.DefD) (b : List Xf) (g : Addr → Option Obj) : He.AlD × Bool := obsX fa fn b (He.frG g (He.asD g n))
def hookX (n : Nat) (fa : List He.Fa) (fn : List He.DefD) (b : List Xf) : PySem.W.Hook where
  α := He.AlD × Bool
  obs := fun s => obsXG n fa fn b s.heap.get?
  val := fun _ => (He.valD fn, true)
  says := fun _ h => ∃ K : PySem.W.Frag, K.In h ∧ He.SaysD fa fn K ∧ ∀ f ∈ b, XfOk K f
  of := fun _ _ e => ⟨_, He.frG_in, congrArg (fun z : He.AlD × Bool => z.1) e, fun f hf => Xf.of (List.all_eq_true.mp (congrArg (fun z : He.AlD × Bool => z.2) e) f hf)⟩
  keeps := fun _ _ _ ⟨K, hK, c⟩ k => ⟨K, PySem.W.Frag.In.keeps hK k, c⟩
theorem obsXG_eq {n : Nat} {fa : List He.Fa} {fn : List He.DefD} {b : List Xf} {g : Addr → Option Obj} {s : Shared} (h : ∀ a, g a = s.heap.get? a) : obsXG n fa fn b g = (hookX n fa fn b).obs s := by
  have e : g = s.heap.get? := funext h
  rw [e] <;> rfl

/-! ### isinstance of the exception in hand -/
/-- the exception at a, of the class D, stands in every state -/
structure InHand (X : Cx) (a D : Addr) : Prop where
  p : ∃ oe, (a, oe) ∈ X.pn ∧ Zc (.ref D) none oe ∧ ∃ vs, oe.data = .fields vs
def rIsA (K : PySem.W.Frag) (D a : Addr) : List V → Hp → VK → Prop := fun xs H Q => ∃ (c : V) (b : Bool), xs = [.ref a, c] ∧ ((∃ u, ClsV c u ∧ PySem.W.kitOne K (.ref D) u = some b) ∨ (∃ tp cs us, c = .ref tp ∧ H tp = some (.tup cs) ∧ Paired ClsV cs us ∧ PySem.W.kitAny K (.ref D) us = some b)) ∧ Q (.bl b) H
theorem call_isA {X : Cx} {a D : Addr} (C : ExcC X.K D) (hp : InHand X a D) : CallR X (.builtin "isinstance") (rIsA X.K D a) := by
  intro pins s σ H xs us Q I r h
  obtain ⟨oe, hm, hz, vs, hv⟩ := hp
  obtain ⟨c, b, rfl, h, q⟩ := h
  obtain ⟨u1, u2, rfl, r1, r2⟩ := vals2 r
  cases (show u1 = Value.ref a from r1)
  obtain ⟨hget, _⟩ := I.pin (a, oe) (List.mem_append.mpr (.inl hm))
  have J : PySem.W.InstAt s.heap a oe D none := by
    obtain ⟨oc, od, oda, osl⟩ := oe
    obtain ⟨h1, h2⟩ := hz
    dsimp only at h1 h2 hv
    subst h1 h2 hv
    exact ⟨hget, rfl, rfl, trivial⟩
  rcases h with ⟨u, k, e⟩ | ⟨tp, cs, ws, rfl, hT, k, e⟩
  · have e2 := k.eq r2
    subst e2
    exact PySem.W.kia_one (PySem.W.handS_kitx_exc C.hg C.hk C.hs C.hd C.ha C.hn C.ht C.hm) I.kIn J e (fun z => nomatch z) fun tk => ⟨.bl b, H, I.tok tk, rfl, q⟩
  · cases (show u2 = Value.ref tp from r2)
    obtain ⟨_, its, rv, o, h1, h2, n, h3⟩ := (show ObjOk X.prog X.w H s.heap tp (.tup cs) from I.hok tp _ hT)
    have e3 := ClsV.all k rv
    subst e3
    obtain ⟨oc, od, dt, sl⟩ := o
    simp only at h2 h3
    subst h2 h3
    exact PySem.W.kia_tup (PySem.W.handS_kitx_exc C.hg C.hk C.hs C.hd C.ha C.hn C.ht C.hm) I.kIn J h1 e (fun z => nomatch z) fun tk => ⟨.bl b, H, I.tok tk, rfl, q⟩
def isED (a : Addr) (i : Nat) (b : Bool) : ED := fun ρ => match ρ[i]? with
  | some (.vv v) => if v = .ref a then .ok (.im (.bool b)) else .st
  | _ => .st
/-- names of classes -/
structure TcN (X : Cx) (e : Expr) (t : Tc) : Prop where
  p : PE X e (tC (t.v X.K))
section
variable {X : Cx} {E : XK} {C : CM}
theorem tc_own {x : Str} {p : Pos} (hm : X.mg x = some (.ref (He.ga X.K x))) (hg : Gl X x := by rfl) (hd : (x == ("__debug__" : Str)) = false := by decide) : TcN X (.Name x p) (.own x) := ⟨pe_glob (v := .ref (He.ga X.K x)) hg hm rfl hd⟩
theorem tc_bt {x : Str} {T : String} {p : Pos} (hm : X.mg x = none) (hv : bootBuiltins x = some (.type T)) (hg : Gl X x := by rfl) (hn : x ≠ "__name__" := by decide) (hd : (x == ("__debug__" : Str)) = false := by decide) : TcN X (.Name x p) (.bt T) := ⟨pe_bltn (v := .ty T) hg hm hv rfl hn hd⟩
theorem isA_sim {K : PySem.W.Frag} {a : Addr} {i : Nat} {b : Bool} {te : TE} (k : ∀ (σ : L2.St) (G H : Hp) (Q : VK), Same G H → σ.getD i none = some (.ref a) → (∀ G' H', Grow G H G' H' → Q (.bl b) H') → te σ H Q) : SimE K E C te (isED a i b) := by
  intro G0 H0 G H σ ρ Q I h
  obtain ⟨len, bb, w, hw⟩ := I
  unfold isED at h
  cases e : ρ[i]? with
  | none => rw [e] at h; exact h.elim
  | some en =>
    rw [e] at h
    cases en with
    | vv v =>
      simp only at h
      by_cases c : v = .ref a
      · rw [if_pos c] at h
        subst c
        exact k σ G H Q bb.s (hw i _ e) fun G' H' g => h _ G' H' g (.bl b)
      · rw [if_neg c] at h; exact h.elim
    | _ => exact h.elim
theorem se_isA {f : Xf} {a : Addr} {x : Str} {T : Tc} {te : Expr} {p q pos : Pos} (i : Nat) (b : Bool) (F : XfOk X.K f) (hp : InHand X a (He.ga X.K f.c)) (hT : TcN X te T) (hmem : (T, b) ∈ f.isa) (hg : Gl X "isinstance") (hm : X.mg "isinstance" = none) (hN : X.N[i]? = some x := by rfl) (hv : Vis X.env.scope x := by first | exact Or.inl rfl | exact Or.inr (Or.inl rfl) | exact Or.inr (Or.inr rfl)) (hd : (x == ("__debug__" : Str)) = false := by decide) (hcd : (x == ("__classdict__" : Str)) = false := by decide)
    (na : starEach [.Name x q, te] X.env = (false, eval (.Name x q) X.env) :: starEach [te] X.env := by rfl) (nb : starEach [te] X.env = (false, eval te X.env) :: starEach [] X.env := by rfl) (hpl : (backTo pos (starEach [te] X.env)).any (·.1) = false := by rfl) :
    SE X E C (.Call (.Name "isinstance" p) [.Name x q, te] [] pos) (isED a i b) := by
  refine ⟨_, pe_callB (call_isA F.C hp) hg hm (by decide +kernel) (pa_cons (pe_var hN hv hd hcd) (pa_cons hT.p pa_nil nb) na) (he := na) (hpl := hpl), isA_sim fun σ G H Q s hs k => ?_⟩
  exact ⟨.ref a, getD_some hs, T.v X.K, b, rfl, .inl ⟨_, T.cls X.K, F.isa _ hmem⟩, k G H (Grow.refl s)⟩
structure TcNs (X : Cx) (es : List Expr) (ts : List Tc) : Prop where
  p : ∃ t : TA, PA X es t ∧ ∀ σ H Q, Q (ts.map fun t => t.v X.K) H → t σ H Q
theorem tcs_nil : TcNs X [] [] := ⟨_, pa_nil, fun σ H Q h => h⟩
theorem tcs_cons {e : Expr} {es : List Expr} {t : Tc} {ts : List Tc} (h : TcN X e t) (r : TcNs X es ts) (hs : starEach (e :: es) X.env = (false, eval e X.env) :: starEach es X.env := by rfl) : TcNs X (e :: es) (t :: ts) := by
  obtain ⟨ta, pa, sa⟩ := r
  exact ⟨_, pa_cons h.p pa hs, fun σ H Q q => sa σ H _ q⟩
theorem paired_tc (K : PySem.W.Frag) : ∀ ps : List (Tc × Bool), Paired ClsV (ps.map fun p => p.1.v K) (ps.map fun p => p.1.val K)
  | [] => .nil
  | p :: ps => .cons (p.1.cls K) (paired_tc K ps)
theorem se_isAT {f : Xf} {a : Addr} {x : Str} {es : List Expr} {kk : Nat} {p q tp pos : Pos} (i : Nat) (ps : List (Tc × Bool)) (F : XfOk X.K f) (hp : InHand X a (He.ga X.K f.c)) (hT : TcNs X es (ps.map (·.1))) (hmem : ∀ p ∈ ps, p ∈ f.isa) (hlen : ps.length ≤ 100) (hg : Gl X "isinstance") (hm : X.mg "isinstance" = none) (hN : X.N[i]? = some x := by rfl) (hv : Vis X.env.scope x := by first | exact Or.inl rfl | exact Or.inr (Or.inl rfl) | exact Or.inr (Or.inr rfl)) (hd : (x == ("__debug__" : Str)) = false := by decide) (hcd : (x == ("__classdict__" : Str)) = false := by decide)
    (na : starEach [.Name x q, .Tuple es kk tp] X.env = (false, eval (.Name x q) X.env) :: starEach [.Tuple es kk tp] X.env := by rfl) (nb : starEach [.Tuple es kk tp] X.env = (false, eval (.Tuple es kk tp) X.env) :: starEach [] X.env := by rfl) (hpl : (backTo pos (starEach [.Tuple es kk tp] X.env)).any (·.1) = false := by rfl) :
    SE X E C (.Call (.Name "isinstance" p) [.Name x q, .Tuple es kk tp] [] pos) (isED a i (ps.any fun p => p.2)) := by
  obtain ⟨ta, pa, sa⟩ := hT
  refine ⟨_, pe_callB (call_isA F.C hp) hg hm (by decide +kernel) (pa_cons (pe_var hN hv hd hcd) (pa_cons (pe_tup pa) pa_nil nb) na) (he := na) (hpl := hpl), isA_sim fun σ G H Q s hs k => ?_⟩
  refine ⟨.ref a, getD_some hs, sa σ H _ ⟨?_, fun tp hn => ?_⟩⟩
  · rw [List.length_map, List.length_map]; exact le_line (by omega)
  · refine ⟨.ref tp, _, rfl, .inr ⟨tp, _, _, rfl, upd_same, ?_, kitAny_of ps fun p hp => F.isa p (hmem p hp)⟩, k G _ (Grow.new s hn)⟩
    have := paired_tc X.K ps
    rw [List.map_map]
    exact this
end

/-! ### a def called within the suite, with the exception in hand -/
structure FnE (P : Program) (w : World) (K : PySem.W.Frag) (mg : Str → Option Value) (base : Heap) (k : Nat) (f : Addr) (fd : FuncData) (x : Str) (D : Addr) (b : Bool) : Prop where
  run : ∀ (A : Around) (outer : List PySem.Env) (s : Shared) (G H : Hp) (args : Args) (us : List Value) (Q : VK) (E : XK) (p : Addr × Obj), L2H.RoomH k A → L2H.PinOk outer H s p → Zc (.ref D) none p.2 → (∃ vs, p.2.data = .fields vs) → Env0 P w K mg base A outer s H → BindsTo s fd args ([x].zip us) → Vals [.ref p.1] us →
    Same G H → (∀ G' H', Grow G H G' H' → Q (.bl b) H') → codeAny (model P w) A (.call (.ref f) args) (CR (L2N.CX P w) outer P w H s Q E) s
def cxE (P : Program) (w : World) (K : PySem.W.Frag) (mg : Str → Option Value) (base : Heap) (N : List Str) (qual : Str) (scope : Scope) (f : Addr) (cd : Value) (A : Around) (outer : List PySem.Env) (s : Shared) (H : Hp) (E : XK) (p : Addr × Obj) : Cx := L2H.cxH (L2N.CX P w) P w K mg base N qual scope f cd A outer s H E p
theorem fnE_of {P : Program} {w : World} {K : PySem.W.Frag} {mg : Str → Option Value} {base : Heap} {C : CM} {x qual : Str} {params : Arguments} {body : List Stmt} {scope : Scope} {f : Addr} {fd : FuncData} {N ps : List Str} {k : Nat} {y : Str} {D : Addr} {b : Bool} {den : Addr → SD} (F : FunD K x qual params body scope [] [] f fd) (S : FnScope N ps scope) (hn : ps = [y])
    (hden : ∀ a, den a (.vv (.ref a) :: List.replicate (N.length - 1) Ent.no) = .rt (.im (.bool b)))
    (hbody : ∀ (cdv : Value) (A : Around) (outer : List PySem.Env) (s : Shared) (H : Hp) (E : XK) (p : Addr × Obj), L2H.RoomH k (A.deeper (envOfC qual scope s.heap.objs.size f cdv)) → Zc (.ref D) none p.2 → (∃ vs, p.2.data = .fields vs) →
      SB (L2H.cxH (L2N.CX P w) P w K mg base N qual scope f cdv A outer s H E p) E C body (den p.1)) :
    FnE P w K mg base (k + 1) f fd y D b := by
  obtain ⟨⟨oc, od, dV, kV, doc, pm, an, cdv, ct, osl, rfl, lk, hcd, _⟩, _⟩ := F
  subst hn
  refine ⟨fun A outer s G H args us Q E p hr hpin hz hf e0 hb r sm hq => ?_⟩
  have KX : K.In s.heap := e0.mod.kin.keeps fun b o e => (e0.bs b o e).1
  have lim : s.heap.NoLimit := e0.mod.nolimit.keeps fun b o e => (e0.bs b o e).1
  have hkind : ∀ z ∈ [y].zip us, scope.names.lookup z.1 = some .local ∨ (scope.names.lookup z.1 = some .cell ∧ ((cellsFrom (s.heap.objs.size + 1) scope.names []).lookup z.1).isSome = true) := fun ⟨n, v⟩ hy => by
    rcases S.par n (List.of_mem_zip hy).1 with q | q
    · exact .inl q
    · exact .inr ⟨q, PySem.W.cellsFrom_some _ _ _ (.inl q)⟩
  refine codeAny_call_function hr.depth (KX _ _ lk) rfl S.co S.gen rfl (PySem.W.codeRec_of KX hcd) (hb _ _ _ _ ?_)
  refine wpAny_newFunctionEnv_cells S.kind hkind fun env he s1 x1 => ?_
  subst he
  refine ⟨lim.keeps x1.toInCall.keep, codeAny_func ?_⟩
  obtain ⟨t, ht, sim⟩ := hbody cdv A outer s H E p (hr.deeper _) hz hf
  have I := L2H.inv_startH (CX := L2N.CX P w) (E := E) S hpin e0 rfl r x1
  have hNl : 1 ≤ N.length := by
    have := congrArg List.length S.pre
    rw [List.length_take, List.length_singleton] at this
    omega
  have J : EnvOk K G H G H (L2.start N [.ref p.1]) (.vv (.ref p.1) :: List.replicate (N.length - 1) Ent.no) := by
    refine ⟨by simp [L2.start], Grow.refl sm, fun _ => none, fun i e he => ?_⟩
    cases i with
    | zero => cases he; rfl
    | succ i =>
      have e2 := List.mem_of_getElem? (show (List.replicate (N.length - 1) Ent.no)[i]? = some e from by simpa using he)
      rw [List.mem_replicate] at e2
      rw [e2.2]
      trivial
  have hq2 : t { nx := fun _ H' => Q .non H', rt := Q } (L2.start N [.ref p.1]) H := by
    refine sim G H G H _ _ _ J ?_
    rw [hden]
    intro v G' H' g hr
    cases hr
    exact hq G' H' g
  refine wpAny_mono (ht.run [] s1 (L2.start N [.ref p.1]) H _ I hq2) (fun fl s' hs => ?_) fun e s' hs => hs
  have fin : ∀ {σ' : L2.St} {H' : Hp} {v : V} {u : Value}, Inv (L2H.cxH (L2N.CX P w) P w K mg base N qual scope f cdv A outer s H E p) [] σ' H' s' → RelV v u → Q v H' → CE outer P w H s Q u s' :=
    fun {σ' H' v u} J rv q => ⟨v, H', J.os, J.bare, J.base, J.hok, rv, q⟩
  cases fl with
  | ret u =>
    obtain ⟨v, σ', H', J, rv, q⟩ := hs
    exact fin J rv q
  | next =>
    obtain ⟨σ', H', J, q⟩ := hs
    exact fin (v := V.non) (u := Value.none) J rfl q
  | brk =>
    obtain ⟨_, _, _, q⟩ := hs
    exact False.elim q
  | cont =>
    obtain ⟨_, _, _, q⟩ := hs
    exact False.elim q
end Z

/-! ## ZJ -/
set_option Elab.async false
set_option linter.all false
set_option maxRecDepth 100000
set_option maxHeartbeats 2000000
namespace Z
open PySem PySem.Spec PyProof.Rows L2
theorem isED_set (a : Addr) (i : Nat) (b : Bool) (ρ : Env) : isED a i b (ρ.set i (.vv (.ref a))) = if i < ρ.length then .ok (.im (.bool b)) else .st := by
  unfold isED
  by_cases h : i < ρ.length
  · rw [List.getElem?_set_self h, if_pos h]
    simp
  · rw [List.getElem?_eq_none (by simp; omega), if_neg h]
theorem fa_nil {α : Type} {P : α → Prop} : ∀ p ∈ ([] : List α), P p := fun _ h => nomatch h
theorem fa_cons {α : Type} {P : α → Prop} {a : α} {l : List α} (h : P a) (hr : ∀ p ∈ l, P p) : ∀ p ∈ a :: l, P p := fun p hp => by
  rcases List.mem_cons.mp hp with rfl | hp
  · exact h
  · exact hr p hp
theorem su_cases {β : Type} {P : String → β → Prop} {l : List (String × β)} (h : ∀ p ∈ l, P p.1 p.2) : ∀ c s, l.lookup c = some s → P c s := fun c s e => by
  induction l with
  | nil => cases e
  | cons p l ih =>
    obtain ⟨x, y⟩ := p
    rw [List.lookup_cons] at e
    cases q : c == x with
    | true =>
      rw [q] at e
      cases e
      have := eq_of_beq q
      subst this
      exact h _ List.mem_cons_self
    | false =>
      rw [q] at e
      exact ih (fun p hp => h p (List.mem_cons_of_mem _ hp)) e
/-! ### nothing may be raised -/
def EF : XK := fun _ _ _ => False
theorem passesF {X : Cx} : Passes (L2N.CX X.prog X.w) X EF := fun pins σ H s e s' I c => by
  obtain ⟨_, _, _, _, _, _, _, _, _, _, _, _, h⟩ := c
  exact h.elim
section
variable {X : Cx} {E : XK} {C : CM}
theorem pe_callE {k i : Nat} {f a D : Addr} {fd : FuncData} {x y n : Str} {b : Bool} {p q pos : Pos} (F : FnE X.prog X.w X.K X.mg X.base k f fd y D b) (hr : L2H.RoomH k X.A) (hp : InHand X a D) (hg : Gl X x) (hm : X.mg x = some (.ref f)) (hk : PySem.W.keepIn X.K (.ref f) = true) (hb : Binds X.K fd [y] []) (hx : Passes (L2N.CX X.prog X.w) X E)
    (hN : X.N[i]? = some n) (hv : Vis X.env.scope n) (hd : (n == ("__debug__" : Str)) = false) (hcd : (n == ("__classdict__" : Str)) = false)
    (hdb : (x == ("__debug__" : Str)) = false := by decide) (he : starEach [.Name n q] X.env = (false, eval (.Name n q) X.env) :: starEach [] X.env := by rfl) (hpl : (backTo pos (starEach [] X.env)).any (·.1) = false := by rfl) :
    PE X (.Call (.Name x p) [.Name n q] [] pos) (fun σ H Q => tVar i σ H fun v H1 => v = .ref a ∧ ∃ G, Same G H1 ∧ ∀ G' H', Grow G H1 G' H' → Q (.bl b) H') := by
  refine ⟨fun pins s σ H Q I h => ?_⟩
  refine wpAny_Call_Name_kw (ld_glob I hg hm ?_ hdb)
  have pa : PA X [.Name n q] (tCons (tVar i) tNil) := pa_cons (pe_var hN hv hd hcd) pa_nil he
  have h2 : tCons (tVar i) tNil σ H fun vs H1 => ∃ v, vs = [v] ∧ v = .ref a ∧ ∃ G, Same G H1 ∧ ∀ G' H', Grow G H1 G' H' → Q (.bl b) H' := by
    obtain ⟨v, e, r⟩ := h
    exact ⟨v, e, v, rfl, r⟩
  refine PySem.W.callWith_K (h₀ := X.base) I.ok.mod.kin hk (thn (pa.run pos pins s σ H _ I h2) fun us s1 ⟨vs, H1, I1, r, q⟩ => ⟨I1.kIn, ?_⟩) he hpl
  obtain ⟨v, rfl, rfl, G, sm, q⟩ := q
  obtain ⟨oe, hmem, hz, hvs⟩ := hp
  have P1 := I1.pin (a, oe) (List.mem_append_left _ hmem)
  have hpin : L2H.PinOk X.stack H1 s1 (a, oe) := ⟨P1.1, P1.2.1, fun hm => (List.mem_cons.mp (I1.stkSub a hm)).elim P1.2.2.1 P1.2.2.2.1, P1.2.2.2.2⟩
  have hl : us.length = 1 := r.length.symm
  have bb := hb s1 us I1.kIn (by rw [List.append_nil]; exact hl)
  rw [List.append_nil] at bb
  refine wpAny_call (codeAny_mono (F.run X.A X.stack s1 G H1 ⟨us, []⟩ us Q E (a, oe) hr hpin hz hvs I1.env0 bb r sm q) fun r s' hq => ?_)
  cases r with
  | error e => exact hx pins σ H1 s1 e s' I1 hq
  | ok fl =>
    cases fl with
    | ret u => exact I1.after hq
    | next => exact False.elim hq
    | brk => exact False.elim hq
    | cont => exact False.elim hq
/-- a def of the text that is called with the exception in hand -/
structure CalE (P : Program) (w : World) (K : PySem.W.Frag) (mg : Str → Option Value) (base : Heap) (x : Str) (k : Nat) (y : Str) (D : Addr) (b : Bool) : Prop where
  p : ∃ (f : Addr) (fd : FuncData), FnE P w K mg base k f fd y D b ∧ mg x = some (.ref f) ∧ PySem.W.keepIn K (.ref f) = true ∧ Binds K fd [y] []
theorem roomH {k j : Nat} {A : Around} {v : Option Value} (hr : Room k A) (h : j ≤ k) : L2H.RoomH j (A.mark v) := (show L2H.RoomH k (A.mark v) from ⟨hr.dp, hr.un⟩).mono h
theorem se_callE {k : Nat} {a D : Addr} {x y n : Str} {b : Bool} {p q pos : Pos} (i : Nat) (G : CalE X.prog X.w X.K X.mg X.base x k y D b) (hr : L2H.RoomH k X.A) (hp : InHand X a D) (hx : Passes (L2N.CX X.prog X.w) X E) (hN : X.N[i]? = some n := by rfl) (hv : Vis X.env.scope n := by first | exact Or.inl rfl | exact Or.inr (Or.inl rfl) | exact Or.inr (Or.inr rfl)) (hd : (n == ("__debug__" : Str)) = false := by decide) (hcd : (n == ("__classdict__" : Str)) = false := by decide)
    (hg : Gl X x := by rfl) (hdb : (x == ("__debug__" : Str)) = false := by decide) (he : starEach [.Name n q] X.env = (false, eval (.Name n q) X.env) :: starEach [] X.env := by rfl) (hpl : (backTo pos (starEach [] X.env)).any (·.1) = false := by rfl) :
    SE X E C (.Call (.Name x p) [.Name n q] [] pos) (isED a i b) := by
  obtain ⟨f, fd, F, hm, hkp, hb⟩ := G.p
  exact ⟨_, pe_callE F hr hp hg hm hkp hb hx hN hv hd hcd hdb he hpl, isA_sim fun σ G H Q s hs k => ⟨.ref a, getD_some hs, rfl, G, s, k⟩⟩

/-! ### try: f(..), except D as e: suite -/
def tryD (f : List PD → Out R) (a : AD) (i : Nat) (su : String → Option (Addr → SD)) : SD := fun ρ => match noX (a ρ) with
  | .ok rs => if rs.all R.isIm then match f (rs.map R.dat) with
    | .ok _ => .nx ρ
    | .ex c => match su c with
      | some s => match s 0 (ρ.set i (.vv (.ref 0))) with
        | .nx ρ' => .nx (ρ'.set i .no)
        | .rt r => .rt r
        | _ => .st
      | none => .st
    | .st => .st
    else .st
  | _ => .st
theorem ss_try {k kk n i : Nat} {ps : List Str} {fn : List PD → Out R} {x nm cx : Str} {cv : Value} {e : Expr} {es : List Expr} {a : AD} {b₀ : Stmt} {suite : List Stmt} {p cpos epos np pos' pos : Pos} (su : String → Option (Addr → SD)) (G : Cal X.prog X.w X.K X.mg X.base C x k n ps fn) (hr : Room kk X.A) (hk : k ≤ kk)
    (hl : ALen a n) (ha : ∀ pn xe, SA (X.tr pn xe) EF C (e :: es) a) (hs : X.stack = X.env :: X.outer) (hf : X.env.frame = some X.env.locals) (hN : X.N.Nodup) (hi : X.N[i]? = some nm) (hln : X.env.kindOf nm = some .local) (hc : Names X cx cv) (tk : L2N.Takes X (fun cls d _ H => E cls d H))
    (hcat : ∀ c s, su c = some s → PySem.W.exmOne X.K (C c) cv = some true)
    (hsu : ∀ c s, su c = some s → ∀ a oe pn, L2N.Zn (C c) none oe → (∃ vs, oe.data = .fields vs) → SB (X.suite a ((a, oe) :: pn)) EF C (b₀ :: suite) (s a))
    (hind : ∀ c s, su c = some s → ∀ (a : Addr) (ρ : Env), s a (ρ.set i (.vv (.ref a))) = s 0 (ρ.set i (.vv (.ref 0))))
    (hg : Gl X x := by rfl) (hdb : (x == ("__debug__" : Str)) = false := by decide) (he : starEach (e :: es) X.env = (false, eval e X.env) :: starEach es X.env := by rfl) (hpl : (backTo cpos (starEach es X.env)).any (·.1) = false := by rfl)
    (hsw : swapsWith (.Call (.Name x p) (e :: es) [] cpos) none epos.line X.env = pure false := by rfl) :
    SS X E C (.Try [.Expr (.Call (.Name x p) (e :: es) [] cpos) epos] [.ExceptHandler (some (.Name cx np)) (some nm) (b₀ :: suite) pos'] [] [] pos) (tryD fn a i su) := by
  obtain ⟨f, fd, F, hm, hkp, hb⟩ := G.p
  let taS : TA := fun σ H Q => ∀ pn xe, Classical.choose (ha pn xe).p σ H Q
  have paS : ∀ pn xe, PA (X.tr pn xe) (e :: es) taS := fun pn xe => ⟨fun pos pins s σ H Q I h => (Classical.choose_spec (ha pn xe).p).1.run pos pins s σ H Q I (h pn xe)⟩
  have saS : SimA X.K EF C taS a := fun G0 H0 G H σ ρ Q I h pn xe => (Classical.choose_spec (ha pn xe).p).2 G0 H0 G H σ ρ Q I h
  let tsS : Addr → Value → Option Addr → TS := fun a cls d D σ H => ∃ c s, ∃ h : su c = some s, ∃ e1 : cls = C c, ∃ e2 : d = none, ∀ oe pn (hz : L2N.Zn (C c) none oe) (hv : ∃ vs, oe.data = .fields vs), Classical.choose (hsu c s h a oe pn hz hv).p D σ H
  have psS : ∀ (a : Addr) (oe : Obj) (cls : Value) (d : Option Addr) (pn : List (Addr × Obj)), L2N.Zn cls d oe → (∃ vs, oe.data = .fields vs) → PSs (X.suite a ((a, oe) :: pn)) (b₀ :: suite) (tsS a cls d) := fun a oe cls d pn hz hv => ⟨fun pins s σ H D I h => by
    obtain ⟨c, s1, h1, rfl, rfl, q⟩ := h
    exact (Classical.choose_spec (hsu c s1 h1 a oe pn hz hv).p).1.run pins s σ H D I (q oe pn hz hv)⟩
  refine ⟨_, L2N.ps_try_as (tb := fun W D σ H => tCallSD (SpF X.K C n fn) [] (fun σ cls d H => W cls d σ H) taS σ H fun _ H1 => D.nx σ H1) (ts := tsS) hs hf hN hi hln hc tk (fun W pn xe tk' _ => ?_) psS, fun G0 H0 G H σ ρ D I h => ?_⟩
  · exact pss_one (ps_expr (pe_callSD (X := X.tr pn xe) (CX := L2N.CX X.prog X.w) F (hr.mono hk) hg hm hkp hb .nil (fun σ pins H s u s' I c => tk' u s' (L2N.XE.of_call I (fun cls d H' h => h) c)) (paS pn xe) hdb he hpl) hsw)
  · show taS σ H fun vs H1 => SpF X.K C n fn (vs ++ []) H1 (fun _ H2 => D.nx σ H2) fun cls d H2 => wAs X.K cv i tsS (fun cls d _ H => E cls d H) D cls d σ H2
    unfold tryD at h
    refine saS G0 H0 G H σ ρ _ I ?_
    cases ea : a ρ with
    | ex c => rw [ea] at h; exact h.elim
    | st => rw [ea] at h; exact h.elim
    | ok rs =>
      rw [ea] at h
      simp only [noX] at h
      intro vs G1 H1 g1 k1
      by_cases c : rs.all R.isIm = true
      · rw [if_pos c] at h
        rw [List.append_nil]
        have I1 := I.grow g1
        refine ⟨G1, rs.map R.dat, I1.s, k1.ims (ims_all c), by rw [List.length_map]; exact hl.l _ _ ea, ?_⟩
        cases ef : fn (rs.map R.dat) with
        | ok r => rw [ef] at h; exact fun v G' H' g hr => h σ G' H' (g1.g.trans g.g) (I1.grow g)
        | st => rw [ef] at h; exact h.elim
        | ex c =>
          rw [ef] at h
          simp only at h
          intro G' H' g
          cases es : su c with
          | none => rw [es] at h; exact h.elim
          | some s =>
            rw [es] at h
            simp only at h
            refine ⟨true, hcat c s es, fun _ b hb => ⟨c, s, es, rfl, rfl, fun oe pn hz hv => ?_⟩, fun z => nomatch z⟩
            have I2 := I1.grow g
            have I3 : EnvOk X.K G0 H0 G' H' (σ.set i (some (.ref b))) (ρ.set i (.vv (.ref b))) := I2.put fun w hw => ⟨w, rfl, fun j e _ h => hw j e h⟩
            refine (Classical.choose_spec (hsu c s es b oe pn hz hv).p).2 G0 H0 G' H' _ _ _ I3 ?_
            rw [hind c s es]
            have s2 := g1.g.trans g.g
            cases eo : s 0 (ρ.set i (.vv (.ref 0))) with
            | nx ρ' => rw [eo] at h; exact fun σ4 G4 H4 s4 I4 => h _ G4 H4 (s2.trans s4) (I4.setNo i)
            | rt r => rw [eo] at h; exact fun v G4 H4 g4 hr => h v G4 H4 g4 hr
            | rv r ρ' => rw [eo] at h; exact h.elim
            | ev r ρ' => rw [eo] at h; exact h.elim
            | ex c => rw [eo] at h; exact h.elim
            | bk ρ' => rw [eo] at h; exact h.elim
            | ct ρ' => rw [eo] at h; exact h.elim
            | st => rw [eo] at h; exact h.elim
      · rw [if_neg c] at h; exact h.elim
end
end Z

/-! ## ZK -/
set_option Elab.async false
set_option linter.all false
set_option maxRecDepth 100000
set_option maxHeartbeats 2000000
namespace Z
open PySem PySem.Spec PyProof.Rows L2
section
variable {X : Cx} {E : XK} {C : CM}
/-! ### {} -/
@[simp] def empD : ED := fun _ => .ok (.im (.dict []))
theorem se_emp {pos : Pos} : SE X E C (.Dict [] [] pos) empD := ⟨_, pe_dnewK, fun G0 H0 G H σ ρ Q I h p hp => h _ _ _ (Grow.newK I.s hp) (.emp upd_same)⟩
/-! ### xs * n -/
def repL (k : Nat) (ds : List PD) : List PD := (List.replicate k ds).flatten
def repD (a b : ED) : ED := fun ρ => (a ρ).bind fun r1 => (b ρ).bind fun r2 => match kids r1.fz, r2.dat with
  | some ds, .int k => if -1000 ≤ k ∧ k ≤ 1000 ∧ ds.length ≤ 100 then .ok (.fr 0 (repL k.toNat ds)) else .st
  | _, _ => .st
theorem RpA.rep {K : PySem.W.Frag} {G : Hp} {vs : List V} {ds : List PD} (h : RpA K G vs ds) : ∀ k : Nat, RpA K G (List.replicate k vs).flatten (repL k ds)
  | 0 => .nil
  | k + 1 => by
    unfold repL
    rw [List.replicate_succ, List.replicate_succ, List.flatten_cons, List.flatten_cons]
    exact h.append (RpA.rep h k)
theorem se_rep {a b : Expr} {da db : ED} {pos : Pos} (ha : SE X E C a da) (hb : SE X E C b db) : SE X E C (.BinOp a .Mult b pos) (repD da db) := by
  obtain ⟨ta, pa, sa⟩ := ha
  obtain ⟨tb, pb, sb⟩ := hb
  refine ⟨_, pe_op op_rep pa pb, ?_⟩
  intro G0 H0 G H σ ρ Q I h
  unfold repD at h
  refine sa.useF famO I h fun r1 x G1 H1 e1 g1 I1 k1 h1 => ?_
  refine sb.use famO I1 h1 fun r2 y G2 H2 e2 g2 I2 k2 h2 => ?_
  have p2 := k2.rp I2.s
  split at h2
  · rename_i ds k q1 q2
    rw [q2] at p2
    cases p2
    split at h2
    · rename_i c
      obtain ⟨p, vs, rfl, hp, rv⟩ := (k1.grow g2).kids I2.s q1
      have l1 := rv.length
      refine ⟨p, k, vs, rfl, rfl, hp, by omega, by omega, ?_, fun q hq => h2 _ G2 _ (Grow.new I2.s hq) (fresh_list (rv.rep _) hq I2.s)⟩
      have h1 : vs.length ≤ 100 := by omega
      have h2 : k.toNat ≤ 1000 := by omega
      exact le_line (Nat.mul_le_mul h1 h2)
    · exact h2.elim
  · exact h2.elim
/-! ### tuple(xs) -/
@[simp] def tuplD (a : AD) : ED := fun ρ => (a ρ).bind fun rs => match rs with
  | [r] => match kidsT r with
    | some ds => .ok (.im (.tuple ds))
    | none => .st
  | _ => .st
theorem se_tuple {e : Expr} {es : List Expr} {a : AD} {p pos : Pos} (hg : Gl X "tuple") (hm : X.mg "tuple" = none) (ha : SA X E C (e :: es) a)
    (he : starEach (e :: es) X.env = (false, eval e X.env) :: starEach es X.env := by rfl) (hpl : (backTo pos (starEach es X.env)).any (·.1) = false := by rfl) :
    SE X E C (.Call (.Name "tuple" p) (e :: es) [] pos) (tuplD a) := by
  obtain ⟨ta, pa, sa⟩ := ha
  refine ⟨_, pe_callTy call_tuple_of hg hm boot_tuple pa (he := he) (hpl := hpl), ?_⟩
  intro G0 H0 G H σ ρ Q I h
  refine sa.use famO I h fun rs vs G1 H1 e1 g1 I1 k1 h1 => ?_
  split at h1
  · rename_i r
    split at h1
    · rename_i ds q
      obtain ⟨v, rfl, k2⟩ := k1.one
      unfold Z.kidsT at q
      split at q
      · cases q
        cases k2 with
        | tup h3 h4 => exact ⟨_, _, rfl, .inr ⟨SqT.of (I1.s _ _ h3), h1 _ G1 H1 (Grow.refl I1.s) (.tup h3 h4)⟩⟩
      · obtain ⟨a, us, rfl, hs, ru⟩ := ROk.kidsS I1.s k2 q
        exact ⟨a, us, rfl, .inl ⟨hs, fun l hl => h1 _ _ _ (Grow.newK I1.s hl) (.tup upd_same (ru.up (same_upd (I1.s.free hl))))⟩⟩
    · exact h1.elim
  · exact h1.elim
end
end Z

/-! ## ZL -/
set_option Elab.async false
set_option linter.all false
set_option maxRecDepth 100000
set_option maxHeartbeats 2000000
namespace Z
open PySem PySem.Spec PyProof.Rows L2
section
variable {X : Cx} {E : XK} {C : CM}
/-! ### in a tuple, ints -/
def inTI : PD → PD → Option PD := fun d e => match d, e with
  | .int i, .tuple ds => (intsOf ds).map fun ns => .bool (decide (i ∈ ns))
  | _, _ => none
theorem inV_ints (i : Int) (ns : List Int) : inV (.int i) (ns.map V.int) = decide (i ∈ ns) := by
  unfold inV
  induction ns with
  | nil => rfl
  | cons n ns ih =>
    rw [List.map_cons, List.any_cons, ih]
    by_cases h : n = i
    · subst h
      simp [eqV]
    · have h2 : ¬ i = n := fun e => h e.symm
      have h3 : (n == i) = false := beq_false_of_ne h
      simp [eqV, h2, h3]
theorem flatV_ints (ns : List Int) : (ns.map V.int).all flatV = true := by
  rw [List.all_map, List.all_eq_true]
  intro x _
  rfl
theorem lk_inT {K : PySem.W.Frag} : Lk2 K (rIn K false) inTI := by
  intro H x y d e z Q hx hy hf
  unfold inTI at hf
  split at hf
  · rename_i i ds
    obtain ⟨ns, e1, e2⟩ := Option.map_eq_some_iff.mp hf
    subst e2
    have := intsOf_eq e1
    subst this
    cases hx
    cases hy with
    | tup h1 h2 =>
      rw [h2.ints] at h1
      exact ⟨_, rfl, fun q => ⟨_, _, rfl, .inr (SqT.of h1), rfl, flatV_ints ns, by rw [inV_ints]; exact q⟩⟩
  · cases hf
end
/-! ### is True, of a truth -/
def isBF : PD → PD → Option PD := fun d e => match d, e with
  | .bool a, .bool b => some (.bool (a == b))
  | _, _ => none
theorem lk_isB {K : PySem.W.Frag} : Lk2 K rIsB isBF := by
  intro H x y d e z Q hx hy hf
  unfold isBF at hf
  split at hf
  · cases hf
    cases hx
    cases hy
    exact ⟨_, rfl, fun q => ⟨_, _, rfl, rfl, q⟩⟩
  · cases hf
/-! ### the lists within become known for ever -/
def frz1D (i : Nat) : SD := fun ρ => match ρ[i]? with
  | some (.ow (n + 1) t) => .nx (ρ.set i (.ow 0 (@List.map (Ty (n + 1)) PD (Ty.dat (n + 1)) t)))
  | _ => .nx ρ
theorem EnvOk.freeze1 {K : PySem.W.Frag} {G0 H0 G H : Hp} {σ : L2.St} {ρ : Env} {i n : Nat} {t : Ty (n + 2)} (I : EnvOk K G0 H0 G H σ ρ) (hi : ρ[i]? = some (.ow (n + 1) t)) : ∃ G', Same G G' ∧ EnvOk K G0 H0 G' H σ (ρ.set i (.ow 0 (@List.map (Ty (n + 1)) PD (Ty.dat (n + 1)) t))) := by
  obtain ⟨len, b, w, hw⟩ := I
  obtain ⟨x, x1, x2, x3, x4, x5⟩ := hw i _ hi
  obtain ⟨A, ys⟩ : Addr × List (ATy (n + 1)) := x
  have ha : ∀ a ∈ ys.flatMap (ATy.adr (n + 1)), w a = some i ∧ G a = none ∧ H0 a = none := fun a h => x5 a (List.mem_cons_of_mem _ h)
  have hA := x5 A List.mem_cons_self
  have hs : Same G (know G H (ys.flatMap (ATy.adr (n + 1)))) := know_same b.s fun a h => (ha a h).2.1
  have nA : A ∉ ys.flatMap (ATy.adr (n + 1)) := fun h => by
    rw [List.mem_flatMap] at h
    obtain ⟨y, hy, h⟩ := h
    exact (x4.1 y hy).2 h
  refine ⟨know G H (ys.flatMap (ATy.adr (n + 1))), hs, by simp [len], ⟨b.g.trans hs, b.h, know_heap b.s, fun a o h1 h2 h3 => ?_⟩, w, fun j e he => ?_⟩
  · by_cases h : a ∈ ys.flatMap (ATy.adr (n + 1))
    · rw [(ha a h).2.2] at h1; cases h1
    · rw [know_out h]; exact b.m a o h1 h2 h3
  · by_cases c : i = j
    · subst c
      have hl : i < ρ.length := (List.getElem?_eq_some_iff.mp hi).1
      rw [List.getElem?_set_self hl] at he
      cases he
      refine ⟨((A, ys.map fun y => (ATy.val (n + 1) y, Ty.dat (n + 1) (ATy.era (n + 1) y))) : Addr × List (V × PD)), x1, ?_, ⟨?_, ?_⟩, ⟨?_, ?_⟩, ?_⟩
      · subst x2
        show List.map (fun z : V × PD => z.2) (ys.map fun y => (ATy.val (n + 1) y, Ty.dat (n + 1) (ATy.era (n + 1) y))) = List.map (Ty.dat (n + 1)) (ys.map (ATy.era (n + 1)))
        rw [List.map_map, List.map_map]
        rfl
      · show H A = some (.lst (List.map (fun z : V × PD => z.1) (ys.map fun y => (ATy.val (n + 1) y, Ty.dat (n + 1) (ATy.era (n + 1) y)))))
        rw [List.map_map]
        exact x3.1
      · intro z hz
        obtain ⟨y, hy, rfl⟩ := (List.mem_map (α := ATy (n + 1)) (β := V × PD)).mp hz
        exact ATy.known (n + 1) y (fun a h => know_in (List.mem_flatMap.mpr ⟨y, hy, h⟩)) hs (x3.2 y hy)
      · exact fun y _ => ⟨trivial, fun h => nomatch h⟩
      · exact List.pairwise_of_forall (fun _ _ a ha => nomatch ha)
      · intro a h
        have : a = A := by
          have h' : a ∈ (A :: (ys.map fun y => (ATy.val (n + 1) y, Ty.dat (n + 1) (ATy.era (n + 1) y)) : List (V × PD)).flatMap (fun _ => ([] : List Addr))) := h
          simpa using h'
        subst this
        exact ⟨hA.1, by rw [know_out nA]; exact hA.2.1, hA.2.2⟩
    · rw [List.getElem?_set_ne c] at he
      have h := hw j e he
      have out : ∀ a, w a = some j → a ∉ ys.flatMap (ATy.adr (n + 1)) := fun a h1 q => by
        rw [(ha a q).1] at h1
        exact c (Option.some.inj h1)
      cases e with
      | no => trivial
      | im d => obtain ⟨v, e1, e2⟩ := h; exact ⟨v, e1, e2.up hs⟩
      | vv v => exact h
      | ob a C fs =>
        obtain ⟨z1, z2, z3, dx, vs, z4, z5⟩ := h
        exact ⟨z1, z2, ⟨by rw [know_out (out a z2)]; exact z3.1, z3.2⟩, dx, vs, z4, z5.up hs⟩
      | ow m u =>
        obtain ⟨y, y1, y2, y3, y4, y5⟩ := h
        exact ⟨y, y1, y2, ATy.ok_mono hs (Same.refl _) _ _ y3, y4, fun a ha => ⟨(y5 a ha).1, by rw [know_out (out a (y5 a ha).1)]; exact (y5 a ha).2.1, (y5 a ha).2.2⟩⟩
theorem sb_frz1 {X : Cx} {E : XK} {C : CM} {b : List Stmt} {d : SD} (i : Nat) (hb : SB X E C b d) : SB X E C b (seqD (frz1D i) d) := by
  obtain ⟨tb, pb, sb⟩ := hb
  refine ⟨_, pb, fun G0 H0 G H σ ρ D I h => ?_⟩
  unfold seqD frz1D at h
  split at h
  · rename_i ρ' e
    split at e
    · rename_i n t q
      cases e
      obtain ⟨G', s', I'⟩ := I.freeze1 q
      exact sb G0 H0 G' H σ _ D I' (SOk.up h s')
    · cases e
      exact sb G0 H0 G H σ _ D I h
  · rename_i o e
    split at e
    · exact absurd rfl (e _)
    · exact absurd rfl (e _)
end Z

/-! ## ZM -/
set_option Elab.async false
set_option linter.all false
set_option maxRecDepth 100000
set_option maxHeartbeats 2000000
namespace Z
open PySem PySem.Spec PyProof.Rows L2
section
variable {X : Cx} {E : XK} {C : CM}
/-! ### the text of a small int -/
noncomputable def strI (i : Int) : Option Str := by classical exact if -100000 ≤ i ∧ i ≤ 100000 then some (Str.ofString (toString i)) else none
theorem small_log {i : Int} (h : -100000 ≤ i ∧ i ≤ 100000) : i.natAbs.log2 < 1920 := by
  have h1 : i.natAbs ≤ 100000 := by omega
  have h2 : i.natAbs < 2 ^ 17 := Nat.lt_of_le_of_lt h1 (by decide)
  by_cases c : i.natAbs = 0
  · rw [c]; decide
  · have := (Nat.log2_lt c).mpr h2
    omega
theorem strI_eq {i : Int} {y : Str} (h : strI i = some y) : i.natAbs.log2 < 1920 ∧ y = Str.ofString (toString i) := by
  unfold strI at h
  split at h
  · rename_i c
    cases h
    exact ⟨small_log c, rfl⟩
  · cases h
noncomputable def strF : List PD → Option PD
  | [.int i] => (strI i).map .str
  | _ => none
theorem lk_str {K : PySem.W.Frag} : LkC K (fun xs H Q => ∃ i, xs = [.int i] ∧ i.natAbs.log2 < 1920 ∧ Q (.str (toString i)) H) strF := by
  intro H xs ds z Q hx e
  unfold strF at e
  split at e
  · rename_i i
    obtain ⟨y, e1, e2⟩ := Option.map_eq_some_iff.mp e
    subst e2
    obtain ⟨h1, h2⟩ := strI_eq e1
    subst h2
    obtain ⟨x, rfl, r1⟩ := rpA_one hx
    cases r1
    exact ⟨_, rfl, fun q => ⟨_, rfl, h1, q⟩⟩
  · cases e
/-! ### f'{a}c' -/
noncomputable def fmtF : PD → Option Str
  | .str y => if y.length ≤ 1000 then some y else none
  | .int i => strI i
  | _ => none
noncomputable def fjD (a : ED) (c : Str) : ED := fun ρ => (a ρ).bind fun r => match fmtF r.dat with
  | some y => if y.length + c.length ≤ 100000 then .ok (.im (.str (y ++ c))) else .st
  | none => .st
theorem empty_app (y : Str) : Str.empty ++ y = y := TL.ext_tl (by rw [TL.tl_append]; rfl)
theorem len_app (x y : Str) : (x ++ y).length = x.length + y.length := strLen_append x y
theorem se_fj {e : Expr} {d : ED} {c : Str} {k : Nat} {p1 p2 pos : Pos} (he : SE X E C e d) : SE X E C (.JoinedStr [.FormattedValue e (-1) none p1, .Constant (.str c) k p2] pos) (fjD d c) := by
  obtain ⟨te, pe, se⟩ := he
  refine ⟨_, pe_joined (.cons (pe_fmt pe) (.cons pe_str .nil)), ?_⟩
  intro G0 H0 G H σ ρ Q I h
  unfold fjD at h
  refine se.use famO I h fun r x G1 H1 e1 g1 I1 k1 h1 => ?_
  have k := k1.rp I1.s
  cases q : fmtF r.dat with
  | none => rw [q] at h1; exact h1.elim
  | some y =>
    rw [q] at h1
    have h1' : OOk X.K E C G1 H1 Q (if y.length + c.length ≤ 100000 then .ok (.im (.str (y ++ c))) else .st) := h1
    split at h1'
    · rename_i hl
      have e0 : (Str.empty ++ y).length = y.length := by rw [empty_app]
      have e2 : ((Str.empty ++ y) ++ c).length = y.length + c.length := by rw [empty_app, len_app]
      have e3 : (Str.empty ++ y) ++ c = y ++ c := by rw [empty_app]
      have rest : ∃ z : Str, V.str y = .str z ∧ (Str.empty ++ z).length ≤ sizeLine ∧ (∃ z2 : Str, V.str c = .str z2 ∧ ((Str.empty ++ z) ++ z2).length ≤ sizeLine ∧ Q (.str ((Str.empty ++ z) ++ z2)) H1) :=
        ⟨y, rfl, by rw [e0]; exact le_line (by omega), c, rfl, by rw [e2]; exact le_line hl, by rw [e3]; exact h1' _ G1 H1 (Grow.refl I1.s) (.str _)⟩
      revert q k
      cases r.dat with
      | str z =>
        intro k q
        simp only [fmtF] at q
        split at q
        · rename_i hz
          cases q
          cases k
          exact .inl ⟨_, rfl, le_line (by omega), rest⟩
        · cases q
      | int i =>
        intro k q
        obtain ⟨l1, l2⟩ := strI_eq (i := i) q
        subst l2
        cases k
        exact .inr ⟨i, rfl, l1, rest⟩
      | none => intro k q; cases q
      | bool b => intro k q; cases q
      | list ds => intro k q; cases q
      | tuple ds => intro k q; cases q
      | dict ds => intro k q; cases q
    · exact h1'.elim
/-! ### c.join(xs) -/
def strsOf : List PD → Option (List Str)
  | [] => some []
  | .str i :: r => (strsOf r).map (i :: ·)
  | _ => none
theorem strsOf_eq : ∀ {ds : List PD} {ns : List Str}, strsOf ds = some ns → ds = ns.map PyData.str
  | [], _, h => by cases h; rfl
  | .str i :: r, ns, h => by
    simp only [strsOf, Option.map_eq_some_iff] at h
    obtain ⟨ms, h1, h2⟩ := h
    subst h2
    rw [strsOf_eq h1] <;> rfl
  | .none :: _, _, h => by simp [strsOf] at h
  | .bool _ :: _, _, h => by simp [strsOf] at h
  | .int _ :: _, _, h => by simp [strsOf] at h
  | .list _ :: _, _, h => by simp [strsOf] at h
  | .tuple _ :: _, _, h => by simp [strsOf] at h
  | .dict _ :: _, _, h => by simp [strsOf] at h
theorem strsOf_map (ns : List Str) : strsOf (ns.map PyData.str) = some ns := by
  induction ns with
  | nil => rfl
  | cons n ns ih => show (strsOf (ns.map PyData.str)).map (n :: ·) = _; rw [ih]; rfl
theorem RpA.strs {K : PySem.W.Frag} {G : Hp} {ns : List Str} {vs : List V} (h : RpA K G vs (ns.map PyData.str)) : vs = ns.map V.str := by
  induction ns generalizing vs with
  | nil => cases h; rfl
  | cons n ns ih =>
    cases h with
    | cons a b => cases a; rw [ih b]; rfl
def joinD (c : Str) (a : ED) : ED := fun ρ => (a ρ).bind fun r => match kidsS r.fz with
  | some ds => match strsOf ds with
    | some ys => if (ys.map (·.length)).sum + ys.length * c.length ≤ 100000 then .ok (.im (.str (Txt.join c ys))) else .st
    | none => .st
  | none => .st
theorem se_join {e : Expr} {d : ED} {c : Str} {k : Nat} {p1 apos pos : Pos} (he : SE X E C e d) (hs : starEach [e] X.env = [(false, eval e X.env)] := by rfl)
    (hline : (apos.endLine == pos.line) = true := by rfl) : SE X E C (.Call (.Attribute (.Constant (.str c) k p1) "join" apos) [e] [] pos) (joinD c d) := by
  obtain ⟨te, pe, se⟩ := he
  refine ⟨_, pe_join pe_str pe hs rfl hline, ?_⟩
  intro G0 H0 G H σ ρ Q I h
  refine ⟨⟨c, rfl⟩, ?_⟩
  unfold joinD at h
  refine se.useF famO I h fun r x G1 H1 e1 g1 I1 k1 h1 => ?_
  split at h1
  · rename_i ds q
    split at h1
    · rename_i ys q2
      split at h1
      · rename_i hl
        obtain ⟨a, vs, rfl, h2, h3⟩ := k1.kidsS I1.s q
        have := strsOf_eq q2
        subst this
        have := h3.strs
        subst this
        exact ⟨c, a, ys, rfl, rfl, .inl h2, Nat.le_trans hl (by decide), h1 _ G1 H1 (Grow.refl I1.s) (.str _)⟩
      · exact h1.elim
    · exact h1.elim
  · exact h1.elim
end
end Z

/-! ## ZN -/
set_option Elab.async false
set_option linter.all false
set_option maxRecDepth 100000
set_option maxHeartbeats 2000000
/-! list(zip(a, b)) of two lists -/
namespace Z
open PySem PySem.Spec PyProof.Rows L2
open PySem.Sem (wp)
/-- a zip object over two lists after i turns; S: the list that is made -/
def ZipS (h : Heap) (z TI TO i1 i2 l1 l2 : Addr) (xs ys : Array Value) (S : Addr) (i : Nat) : Prop :=
  IsPair h TI (.ref i1) (.ref i2) ∧ h.IsListIter i1 l1 i ∧ h.IsListIter i2 l2 i ∧ h.IsList l1 xs ∧ h.IsList l2 ys ∧
    ((IsZip h z TI TO .none ∧ ∃ a b, IsPair h TO a b) ∨ ∃ T f oT, IsZipHeld h z TI TO T f ∧ h.get? T = some oT ∧ T ≠ z ∧ T ≠ i1 ∧ T ≠ i2 ∧ T ≠ S)
theorem ZipS.keep {h h' : Heap} {z TI TO i1 i2 l1 l2 : Addr} {xs ys : Array Value} {S : Addr} {i : Nat} (x : ZipS h z TI TO i1 i2 l1 l2 xs ys S i) (hk : ∀ b o, b ≠ S → h.get? b = some o → h'.get? b = some o)
    (n : z ≠ S ∧ TI ≠ S ∧ TO ≠ S ∧ i1 ≠ S ∧ i2 ≠ S ∧ l1 ≠ S ∧ l2 ≠ S) : ZipS h' z TI TO i1 i2 l1 l2 xs ys S i := by
  obtain ⟨hTI, h1, h2, hl1, hl2, hz⟩ := x
  obtain ⟨nz, nTI, nTO, n1, n2, nl1, nl2⟩ := n
  refine ⟨hk _ _ nTI hTI, h1.at fun o e => hk _ o n1 e, h2.at fun o e => hk _ o n2 e, hl1.at fun o e => hk _ o nl1 e, hl2.at fun o e => hk _ o nl2 e, ?_⟩
  rcases hz with ⟨hz, a, b, hTO⟩ | ⟨T, f, oT, hz, hT, r1, r2, r3, r4⟩
  · exact .inl ⟨hk _ _ nz hz, a, b, hk _ _ nTO hTO⟩
  · exact .inr ⟨T, f, oT, hk _ _ nz hz, hk _ _ r4 hT, r1, r2, r3, r4⟩
section
variable {prog : Program} {w : World} {A : Around} {E : Value → Shared → Prop} {s : Shared} {z TI TO i1 i2 l1 l2 S : Addr} {xs ys : Array Value}
theorem zipS_item {i : Nat} {x y : Value} {Q : Option Value → Shared → Prop} (D : ZipApart z TI TO i1 i2 l1 l2) (st : ZipS s.heap z TI TO i1 i2 l1 l2 xs ys S i) (hS : S < s.heap.objs.size) (hx : xs[i]? = some x) (hy : ys[i]? = some y)
    (hQ : ∀ h', ZipS h' z TI TO i1 i2 l1 l2 xs ys S (i + 1) → IsPair h' s.heap.objs.size x y → h'.objs.size = s.heap.objs.size + 1 →
      (∀ c o, c ≠ z → c ≠ TO → c ≠ i1 → c ≠ i2 → s.heap.get? c = some o → h'.get? c = some o) → Q (some (.ref s.heap.objs.size)) { s with heap := h' }) :
    wpAny (model prog w) A (pyNext (.ref z)) Q E s := by
  obtain ⟨hTI, h1, h2, hl1, hl2, hz⟩ := st
  have lt : ∀ {c o}, s.heap.get? c = some o → s.heap.objs.size ≠ c := fun e => Nat.ne_of_gt (Heap.lt_size e)
  have n1 : s.heap.objs.size ≠ i1 := let ⟨_, e, _⟩ := h1; lt e
  have n2 : s.heap.objs.size ≠ i2 := let ⟨_, e, _⟩ := h2; lt e
  rcases hz with ⟨hz, a, b, hTO⟩ | ⟨T, f, oT, hz, hT, r1, r2, r3, r4⟩
  · exact wpAny_pyNext_zip_item D hz hTI hTO h1 h2 hl1 hl2 hx hy fun h' a1 a2 a3 a4 a5 a6 hk => hQ h'
      ⟨hk _ _ D.TIz D.TITO D.TIi1 D.TIi2 hTI, a3, a4, hl1.at fun o e => hk _ o D.l1z D.l1TO D.l1i1 D.l1i2 e, hl2.at fun o e => hk _ o D.l2z D.l2TO D.l2i1 D.l2i2 e,
        .inr ⟨s.heap.objs.size, false, _, a1, a5, lt hz, n1, n2, Nat.ne_of_gt hS⟩⟩ a5 a6 hk
  · exact wpAny_pyNext_zip_item_held D hz hT hTI h1 h2 hl1 hl2 hx hy fun h' a1 a3 a4 a5 a6 hk => hQ h'
      ⟨hk _ _ D.TIz D.TIi1 D.TIi2 hTI, a3, a4, hl1.at fun o e => hk _ o D.l1z D.l1i1 D.l1i2 e, hl2.at fun o e => hk _ o D.l2z D.l2i1 D.l2i2 e,
        .inr ⟨T, true, oT, a1, hk _ _ r1 r2 r3 hT, r1, r2, r3, r4⟩⟩ a5 a6 fun c o c1 _ c3 c4 e => hk c o c1 c3 c4 e
theorem zipS_done {i : Nat} {Q : Option Value → Shared → Prop} (hh : A.handled = none) (D : ZipApart z TI TO i1 i2 l1 l2) (st : ZipS s.heap z TI TO i1 i2 l1 l2 xs ys S i) (hend : xs[i]? = none ∨ ys[i]? = none)
    (hQ : ∀ h', (∀ c o, c ≠ z → c ≠ TO → c ≠ i1 → c ≠ i2 → s.heap.get? c = some o → h'.get? c = some o) → Q none { s with heap := h' }) : wpAny (model prog w) A (pyNext (.ref z)) Q E s := by
  obtain ⟨hTI, h1, h2, hl1, hl2, hz⟩ := st
  rcases hz with ⟨hz, a, b, hTO⟩ | ⟨T, f, oT, hz, hT, r1, r2, r3, r4⟩
  · exact wpAny_pyNext_zip_end hh D hz hTI hTO h1 h2 hl1 hl2 hend hQ
  · exact wpAny_pyNext_zip_end_held hh D hz hT hTI h1 h2 hl1 hl2 hend fun h' hk => hQ h' fun c o c1 _ c3 c4 e => hk c o c1 c3 c4 e
end
structure ZipG (xs ys : Array Value) (lo : Addr) (h : Heap) (as : List Addr) : Prop where
  rise : as.Pairwise (· < ·)
  above : ∀ a ∈ as, lo < a
  pairs : ∀ (j : Nat) (a : Addr), as[j]? = some a → ∃ x y, xs[j]? = some x ∧ ys[j]? = some y ∧ IsPair h a x y
theorem ZipG.there {xs ys : Array Value} {lo : Addr} {h : Heap} {as : List Addr} (g : ZipG xs ys lo h as) {a : Addr} (ha : a ∈ as) : a < h.objs.size := by
  obtain ⟨j, hj⟩ := List.mem_iff_getElem?.mp ha
  obtain ⟨_, _, _, _, e⟩ := g.pairs j a hj
  exact Heap.lt_size e
section
variable {prog : Program} {w : World} {A : Around} {s : Shared} {R : Result → Shared → Prop} {z TI TO i1 i2 l1 l2 S : Addr} {xs ys : Array Value}
theorem zip_loop (hh : A.handled = none) (D : ZipApart z TI TO i1 i2 l1 l2) (low : z < S ∧ TI < S ∧ TO < S ∧ i1 < S ∧ i2 < S ∧ l1 < S ∧ l2 < S) (hl : xs.size = ys.size) (hn : xs.size ≤ sizeLine) (res : Value) {h₁ : Heap}
    (hR : ∀ h' tk acc c as, (∀ b o, b ≠ S → b ≠ z → b ≠ TO → b ≠ i1 → b ≠ i2 → h₁.get? b = some o → h'.get? b = some o) → h'.get? S = some { cls := .type "list", dict := none, data := .seq acc c, slots := #[] } → as.length = xs.size → ZipG xs ys S h' as →
      acc.toList = as.map Value.ref → R (.ok (.ret res)) { s with heap := h', toks := tk }) :
    ∀ (k i : Nat) (h : Heap) (tk c : Nat) (acc : Array Value) (as : List Addr), xs.size - i = k → i ≤ xs.size → ZipS h z TI TO i1 i2 l1 l2 xs ys S i → (∀ b o, b ≠ S → b ≠ z → b ≠ TO → b ≠ i1 → b ≠ i2 → h₁.get? b = some o → h.get? b = some o) →
      h.get? S = some { cls := .type "list", dict := none, data := .seq acc c, slots := #[] } → acc.toList = as.map Value.ref → as.length = i → ZipG xs ys S h as →
      codeAny (model prog w) A (.builtin "list.extend.loop" ⟨[.ref S, .ref z, res], []⟩) R { s with heap := h, toks := tk } := by
  have nS : z ≠ S ∧ TI ≠ S ∧ TO ≠ S ∧ i1 ≠ S ∧ i2 ≠ S ∧ l1 ≠ S ∧ l2 ≠ S := ⟨Nat.ne_of_lt low.1, Nat.ne_of_lt low.2.1, Nat.ne_of_lt low.2.2.1, Nat.ne_of_lt low.2.2.2.1, Nat.ne_of_lt low.2.2.2.2.1, Nat.ne_of_lt low.2.2.2.2.2.1, Nat.ne_of_lt low.2.2.2.2.2.2⟩
  have off : ∀ a, S < a → a ≠ z ∧ a ≠ TO ∧ a ≠ i1 ∧ a ≠ i2 := fun a ha => ⟨Nat.ne_of_gt (Nat.lt_trans low.1 ha), Nat.ne_of_gt (Nat.lt_trans low.2.2.1 ha), Nat.ne_of_gt (Nat.lt_trans low.2.2.2.1 ha), Nat.ne_of_gt (Nat.lt_trans low.2.2.2.2.1 ha)⟩
  intro k
  induction k with
  | zero =>
    intro i h tk c acc as hk hi hst hkeep hS hacc hal hG
    refine codeAny_builtin PySem.F.entry_extend_loop ?_
    rw [Around.under_plainId PySem.F.plain_extend_loop _]
    show wpAny _ A.in1 (pyNext (.ref z) >>= _) _ _ _
    refine wpAny_bind (zipS_done (s := { s with heap := h, toks := tk }) (A := A.in1) hh D hst (.inl (Array.getElem?_eq_none (by omega))) fun h' he => ?_)
    refine wpAny_pure (hR h' tk acc c as (fun b o h1 h2 h3 h4 h5 e => he b o h2 h3 h4 h5 (hkeep b o h1 h2 h3 h4 h5 e)) (he S _ nS.1.symm nS.2.2.1.symm nS.2.2.2.1.symm nS.2.2.2.2.1.symm hS) (by omega) ⟨hG.rise, hG.above, fun j a hj => ?_⟩ hacc)
    obtain ⟨x, y, e1, e2, e3⟩ := hG.pairs j a hj
    obtain ⟨o1, o2, o3, o4⟩ := off a (hG.above a (List.mem_of_getElem? hj))
    exact ⟨x, y, e1, e2, he a _ o1 o2 o3 o4 e3⟩
  | succ k ih =>
    intro i h tk c acc as hk hi hst hkeep hS hacc hal hG
    have hlt : i < xs.size := by omega
    have hx := Array.getElem?_eq_getElem hlt
    have hlt2 : i < ys.size := by omega
    have hy := Array.getElem?_eq_getElem hlt2
    have hsz : acc.size = i := by rw [← Array.length_toList, hacc, List.length_map, hal]
    have hSl : S < h.objs.size := Heap.lt_size hS
    refine codeAny_builtin PySem.F.entry_extend_loop ?_
    rw [Around.under_plainId PySem.F.plain_extend_loop _]
    show wpAny _ A.in1 (pyNext (.ref z) >>= _) _ _ _
    refine wpAny_bind (zipS_item (s := { s with heap := h, toks := tk }) (S := S) D hst hSl hx hy fun h' hst' ht hz hkp => ?_)
    dsimp only at ht hz hkp ⊢
    have hS' := hkp S _ nS.1.symm nS.2.2.1.symm nS.2.2.2.1.symm nS.2.2.2.2.1.symm hS
    have up : ∀ b o, b ≠ S → h'.get? b = some o → (h'.update S (Obj.mapSeq (·.push (Value.ref h.objs.size)))).get? b = some o := fun b o hb e => (Heap.get?_update_other _ _ (Ne.symm hb)).trans e
    show wpAny _ A.in1 (updateSeq S (·.push (Value.ref h.objs.size)) >>= _) _ _ _
    refine wpAny_bind ?_
    refine wpAny_updateSeq hS' rfl (wpAny_pure ⟨plainId_quiet PySem.F.plain_extend_loop _, ih (i + 1) _ tk _ (acc.push (Value.ref h.objs.size)) (as ++ [h.objs.size]) (by omega) hlt (hst'.keep up nS)
      (fun b o h1 h2 h3 h4 h5 e => up b o h1 (hkp b o h2 h3 h4 h5 (hkeep b o h1 h2 h3 h4 h5 e))) (Heap.get?_update_self _ hS' rfl) (by rw [Array.toList_push, hacc, List.map_append]; rfl) (by rw [List.length_append, hal]; rfl) ⟨?_, ?_, ?_⟩⟩) (by rw [hsz]; omega) (by show (acc.push (Value.ref h.objs.size)).size ≤ sizeLine + 1; rw [Array.size_push, hsz]; omega)
    · refine List.pairwise_append.mpr ⟨hG.rise, List.pairwise_singleton _ _, fun a ha b hb => ?_⟩
      rw [List.mem_singleton.mp hb]
      exact hG.there ha
    · intro a ha
      rcases List.mem_append.mp ha with ha | ha
      · exact hG.above a ha
      · rw [List.mem_singleton.mp ha]; exact hSl
    · intro j b hj
      rcases Nat.lt_trichotomy j as.length with h1 | h1 | h1
      · rw [List.getElem?_append_left h1] at hj
        obtain ⟨x', y', e1, e2, e3⟩ := hG.pairs j b hj
        have hb := hG.above b (List.mem_of_getElem? hj)
        obtain ⟨o1, o2, o3, o4⟩ := off b hb
        exact ⟨x', y', e1, e2, up b _ (Nat.ne_of_gt hb) (hkp b _ o1 o2 o3 o4 e3)⟩
      · subst h1
        have hb : h.objs.size = b := by simpa using hj
        subst hb
        exact ⟨_, _, by rw [hal]; exact hx, by rw [hal]; exact hy, up _ _ (Nat.ne_of_gt hSl) ht⟩
      · have hnone : (as ++ [h.objs.size])[j]? = none := List.getElem?_eq_none (by rw [List.length_append, List.length_singleton]; omega)
        rw [hnone] at hj; cases hj
end
theorem nolen_zip : typeLookup (.type "zip") "__len__" = pure none := by rw [typeLookup_type, builtinLookup_eq_fast]; kernel_rfl
theorem nohint_zip : typeLookup (.type "zip") "__length_hint__" = pure none := by rw [typeLookup_type, builtinLookup_eq_fast]; kernel_rfl
theorem ZipS.typeIs {s : Shared} {z TI TO i1 i2 l1 l2 S : Addr} {xs ys : Array Value} {i : Nat} (st : ZipS s.heap z TI TO i1 i2 l1 l2 xs ys S i) : s.TypeIs (.ref z) "zip" := by
  obtain ⟨_, _, _, _, _, hz⟩ := st
  rcases hz with ⟨hz, _⟩ | ⟨T, f, oT, hz, _⟩
  · exact ⟨_, hz, rfl⟩
  · exact ⟨_, hz, rfl⟩
section
variable {prog : Program} {w : World} {A : Around} {E : Value → Shared → Prop} {s : Shared} {z TI TO i1 i2 l1 l2 : Addr} {xs ys : Array Value}
theorem zip_extend {R : Result → Shared → Prop} (hh : A.handled = none) (D : ZipApart z TI TO i1 i2 l1 l2) (S : Addr) (low : z < S ∧ TI < S ∧ TO < S ∧ i1 < S ∧ i2 < S ∧ l1 < S ∧ l2 < S) (hl : xs.size = ys.size) (hn : xs.size ≤ sizeLine) (res : Value) (c₀ : Nat)
    (hz : IsZip s.heap z TI TO .none) (st : ZipS s.heap z TI TO i1 i2 l1 l2 xs ys S 0) (hS : s.heap.get? S = some { cls := .type "list", data := .seq #[] c₀ })
    (hR : ∀ h' tk acc c as, (∀ b o, b ≠ S → b ≠ z → b ≠ TO → b ≠ i1 → b ≠ i2 → s.heap.get? b = some o → h'.get? b = some o) → h'.get? S = some { cls := .type "list", dict := none, data := .seq acc c, slots := #[] } → as.length = xs.size → ZipG xs ys S h' as →
      acc.toList = as.map Value.ref → R (.ok (.ret res)) { s with heap := h', toks := tk }) :
    wpAny (model prog w) A.in1 (Builtin.List.listExtendWith (.ref S) (.ref z) res)
      (fun fin s' => match fin with | .done f => R (.ok f) s' | .again c' => c'.quiet = true ∧ codeAny (model prog w) A c' R s') (fun e s' => R (.error e) s') s := by
  have nS : z ≠ S ∧ TI ≠ S ∧ TO ≠ S ∧ i1 ≠ S ∧ i2 ≠ S ∧ l1 ≠ S ∧ l2 ≠ S := ⟨Nat.ne_of_lt low.1, Nat.ne_of_lt low.2.1, Nat.ne_of_lt low.2.2.1, Nat.ne_of_lt low.2.2.2.1, Nat.ne_of_lt low.2.2.2.2.1, Nat.ne_of_lt low.2.2.2.2.2.1, Nat.ne_of_lt low.2.2.2.2.2.2⟩
  unfold Builtin.List.listExtendWith
  refine wpAny_bind (wpAny_typeOf (T := "zip") st.typeIs ?_)
  have h1 : Builtin.List.listSameRef (.ref S) (.ref z) = false := by simp [Builtin.List.listSameRef, nS.1.symm]
  have h2 : (Value.type "zip" == Value.type "list") = false := by decide
  have h3 : (Value.type "zip" == Value.type "tuple") = false := by decide
  simp only [h1, h2, h3, Bool.or_false, Bool.false_eq_true, if_false]
  refine wpAny_bind (wpAny_pyIter_zip hz ?_)
  refine wpAny_bind (wpAny_holding ?_)
  unfold Builtin.List.listLengthHint
  refine wpAny_bind (wpAny_specialOf st.typeIs nolen_zip ?_)
  show wpAny _ A.in1 (specialOf (Value.ref z) (Str.ofString "__length_hint__") >>= _) _ _ _
  refine wpAny_bind (wpAny_specialOf st.typeIs nohint_zip ?_)
  refine wpAny_pure ?_
  show wpAny _ A.in1 (rule "list.extend.makes-room" >>= fun _ => Builtin.List.listTouch (.ref S) >>= fun _ =>
    again (.builtin "list.extend.loop" ⟨[.ref S, .ref z, res], []⟩)) _ _ _
  refine wpAny_bind (wpAny_rule ?_)
  refine wpAny_bind ?_
  show wpAny _ A.in1 (updateSeq S (·.push .none) >>= fun _ => updateSeq S (·.pop)) _ _ _
  refine wpAny_bind (wpAny_updateSeq hS rfl ?_)
  have hS₂ := Heap.get?_update_self (Obj.mapSeq (·.push Value.none)) hS rfl
  refine wpAny_updateSeq (hz := by seq_fits) hS₂ rfl ?_
  have hS₃ := Heap.get?_update_self (Obj.mapSeq (·.pop)) hS₂ rfl
  have oth : ∀ b o, b ≠ S → s.heap.get? b = some o → ((s.heap.update S (Obj.mapSeq (·.push Value.none))).update S (Obj.mapSeq (·.pop))).get? b = some o :=
    fun b o hb e => (Heap.get?_update_other _ _ (Ne.symm hb)).trans ((Heap.get?_update_other _ _ (Ne.symm hb)).trans e)
  exact wpAny_pure ⟨plainId_quiet PySem.F.plain_extend_loop _, zip_loop (s := s) (h₁ := s.heap) hh D low hl hn res hR xs.size 0 _ _ _ #[] [] (Nat.sub_zero _) (Nat.zero_le _) (st.keep oth nS) (fun b o hb _ _ _ _ e => oth b o hb e) hS₃ rfl rfl
    ⟨List.Pairwise.nil, (fun _ ha => nomatch ha), (fun j a hj => by simp at hj)⟩⟩
theorem zip_list {Q : Value → Shared → Prop} (hh : A.handled = none) (D : ZipApart z TI TO i1 i2 l1 l2) (hl : xs.size = ys.size) (hn : xs.size ≤ sizeLine)
    (hz : IsZip s.heap z TI TO .none) (hTI : IsPair s.heap TI (.ref i1) (.ref i2)) (hTO : ∃ a b, IsPair s.heap TO a b) (h1 : s.heap.IsListIter i1 l1 0) (h2 : s.heap.IsListIter i2 l2 0) (hl1 : s.heap.IsList l1 xs) (hl2 : s.heap.IsList l2 ys)
    (hQ : ∀ h' tk acc c as, (∀ b o, b ≠ z → b ≠ TO → b ≠ i1 → b ≠ i2 → s.heap.get? b = some o → h'.get? b = some o) → h'.get? s.heap.objs.size = some { cls := .type "list", dict := none, data := .seq acc c, slots := #[] } → as.length = xs.size → ZipG xs ys s.heap.objs.size h' as →
      acc.toList = as.map Value.ref → Q (.ref s.heap.objs.size) { s with heap := h', toks := tk }) :
    wpAny (model prog w) A (call (.type "list") [.ref z]) Q E s := by
  refine callType_codes (Q₁ := fun obj s₁ => obj = .ref s.heap.objs.size ∧ s₁ = { s with heap := s.heap.push { cls := .type "list", data := .seq #[] } }) PySem.F.called_list (PySem.F.typeCall_list_1 _) PySem.F.entry_list_init
    (code_list_new _ ⟨rfl, rfl⟩) fun obj s₁ h₁ => ?_
  obtain ⟨rfl, rfl⟩ := h₁
  have hS : (s.heap.push { cls := .type "list", data := .seq #[] }).get? s.heap.objs.size = some { cls := .type "list", data := .seq #[] } := Heap.get?_push_size _ rfl
  obtain ⟨a0, b0, hTO⟩ := hTO
  have low : z < s.heap.objs.size ∧ TI < s.heap.objs.size ∧ TO < s.heap.objs.size ∧ i1 < s.heap.objs.size ∧ i2 < s.heap.objs.size ∧ l1 < s.heap.objs.size ∧ l2 < s.heap.objs.size :=
    ⟨Heap.lt_size hz, Heap.lt_size hTI, Heap.lt_size hTO, let ⟨_, e, _⟩ := h1; Heap.lt_size e, let ⟨_, e, _⟩ := h2; Heap.lt_size e, let ⟨_, e, _⟩ := hl1; Heap.lt_size e, let ⟨_, e, _⟩ := hl2; Heap.lt_size e⟩
  have nS : z ≠ s.heap.objs.size ∧ TI ≠ s.heap.objs.size ∧ TO ≠ s.heap.objs.size ∧ i1 ≠ s.heap.objs.size ∧ i2 ≠ s.heap.objs.size ∧ l1 ≠ s.heap.objs.size ∧ l2 ≠ s.heap.objs.size := ⟨Nat.ne_of_lt low.1, Nat.ne_of_lt low.2.1, Nat.ne_of_lt low.2.2.1, Nat.ne_of_lt low.2.2.2.1, Nat.ne_of_lt low.2.2.2.2.1, Nat.ne_of_lt low.2.2.2.2.2.1, Nat.ne_of_lt low.2.2.2.2.2.2⟩
  have st : ZipS s.heap z TI TO i1 i2 l1 l2 xs ys s.heap.objs.size 0 := ⟨hTI, h1, h2, hl1, hl2, .inl ⟨hz, a0, b0, hTO⟩⟩
  refine ⟨⟨_, hS, rfl⟩, PySem.F.args_list_init_2 _ _, ?_⟩
  show wpAny _ _ (do let old ← Builtin.List.listItems (.ref s.heap.objs.size); Builtin.List.listUpdate (.ref s.heap.objs.size) (fun _ => #[]); letGo old.toList.reverse; Builtin.List.listExtendWith (.ref s.heap.objs.size) (.ref z) .none) _ _ _
  refine wpAny_bind ?_
  unfold Builtin.List.listItems
  refine wpAny_bind (wpAny_seqItems hS rfl (wpAny_pure ?_))
  show wpAny _ _ (updateSeq s.heap.objs.size (fun _ => #[]) >>= fun _ => letGo (#[] : Array Value).toList.reverse >>= fun _ => Builtin.List.listExtendWith (.ref s.heap.objs.size) (.ref z) .none) _ _ _
  refine wpAny_bind (wpAny_updateSeq hS rfl ?_)
  have hS₂ := Heap.get?_update_self (Obj.mapSeq (fun _ => (#[] : Array Value))) hS rfl
  have oth : ∀ b o, b ≠ s.heap.objs.size → s.heap.get? b = some o → ((s.heap.push { cls := .type "list", data := .seq #[] }).update s.heap.objs.size (Obj.mapSeq (fun _ => (#[] : Array Value)))).get? b = some o :=
    fun b o hb e => (Heap.get?_update_other _ _ (Ne.symm hb)).trans (Heap.get?_push_of_some _ e)
  refine wpAny_bind (wpAny_letGo ?_)
  refine zip_extend (A := A.in1) hh D s.heap.objs.size low hl hn .none _ (oth _ _ nS.1 hz) (st.keep oth nS) hS₂ (fun h' tk acc c as hk hS' hlen hG hacc => ?_)
  exact ⟨rfl, hQ h' tk acc c as (fun b o c1 c2 c3 c4 e => hk b o (Nat.ne_of_lt (Heap.lt_size e)) c1 c2 c3 c4 (oth b o (Nat.ne_of_lt (Heap.lt_size e)) e)) hS' hlen hG hacc⟩
end
/-! ### laid into what is known -/
def putP : Hp → List Addr → List (V × V) → Hp
  | H, a :: as, p :: ps => putP (upd H a (.tup [p.1, p.2])) as ps
  | H, _, _ => H
theorem putP_off {b : Addr} : ∀ (as : List Addr) (ps : List (V × V)) (H : Hp), b ∉ as → putP H as ps b = H b
  | [], _, _, _ => rfl
  | _ :: _, [], _, _ => rfl
  | a :: as, p :: ps, H, h => by
    show putP (upd H a (.tup [p.1, p.2])) as ps b = H b
    rw [putP_off as ps _ (fun z => h (List.mem_cons_of_mem _ z)), upd_ne (fun z => h (by rw [z]; exact List.mem_cons_self))]
theorem putP_at : ∀ (as : List Addr) (ps : List (V × V)) (H : Hp), as.length = ps.length → as.Nodup → Paired (fun (t : Addr) (p : V × V) => putP H as ps t = some (.tup [p.1, p.2])) as ps
  | [], [], _, _, _ => .nil
  | [], _ :: _, _, h, _ => by cases h
  | _ :: _, [], _, h, _ => by cases h
  | a :: as, p :: ps, H, h, hn => by
    have hn' := List.nodup_cons.mp hn
    have ih := putP_at as ps (upd H a (.tup [p.1, p.2])) (Nat.succ.inj h) hn'.2
    refine .cons ?_ ih
    show putP (upd H a (.tup [p.1, p.2])) as ps a = some (.tup [p.1, p.2])
    rw [putP_off as ps _ hn'.1, upd_same]
theorem zip_laid {X : Cx} {pins : List (Addr × Obj)} {σ : L2.St} {H : Hp} {s : Shared} {h' : Heap} {tk : Nat} {vx vy : List V} {ux uy : List Value} {acc : Array Value} {c : Nat} {as : List Addr} {S : Addr} (I : Inv X pins σ H s) (hz : vx.length ≤ sizeLine) (hge : s.heap.objs.size ≤ S)
    (rx : Vals vx ux) (ry : Vals vy uy) (hxy : vx.length = vy.length)
    (hk : ∀ b o, s.heap.get? b = some o → h'.get? b = some o) (hS : h'.get? S = some { cls := .type "list", dict := none, data := .seq acc c, slots := #[] }) (hl : as.length = vx.length) (hG : ZipG ux.toArray uy.toArray S h' as) (hacc : acc.toList = as.map Value.ref) :
    ∃ H' : Hp, (∀ b o, H b = some o → H' b = some o) ∧ H S = none ∧ (∀ t ∈ as, H t = none) ∧ S ∉ as ∧ as.Nodup ∧ H' S = some (.lst (as.map V.ref)) ∧ Paired (fun (t : Addr) (q : V × V) => H' t = some (.tup [q.1, q.2])) as (vx.zip vy) ∧ Inv X pins σ H' { s with heap := h', toks := tk } := by
  have lk : (vx.zip vy).length = vx.length := by rw [List.length_zip]; omega
  have hSn : S ∉ as := fun z => Nat.lt_irrefl _ (hG.above _ z)
  have nd : as.Nodup := List.Pairwise.imp (fun {a b} (h : a < b) => Nat.ne_of_lt h) hG.rise
  have new : ∀ t ∈ as, H t = none := fun t ht => I.hok.fresh (Nat.le_trans hge (Nat.le_of_lt (hG.above t ht)))
  have newS : H S = none := I.hok.fresh hge
  have atP := putP_at as (vx.zip vy) (upd H S (.lst (as.map V.ref))) (by omega) nd
  have off : ∀ b, b ∉ as → b ≠ S → putP (upd H S (.lst (as.map V.ref))) as (vx.zip vy) b = H b := fun b h1 h2 => by rw [putP_off as _ _ h1, upd_ne h2]
  have low : ∀ b o, s.heap.get? b = some o → b ∉ as ∧ b ≠ S := fun b o e => ⟨fun z => absurd (Heap.lt_size e) (Nat.not_lt.mpr (Nat.le_trans hge (Nat.le_of_lt (hG.above b z)))), Nat.ne_of_lt (Nat.lt_of_lt_of_le (Heap.lt_size e) hge)⟩
  have kp : ∀ b u, H b = some u → (putP (upd H S (.lst (as.map V.ref))) as (vx.zip vy)) b = some u := fun b u e => by
    rw [off b (fun z => by rw [new b z] at e; cases e) (fun z => by rw [z, newS] at e; cases e)]
    exact e
  have eS : putP (upd H S (.lst (as.map V.ref))) as (vx.zip vy) S = some (.lst (as.map V.ref)) := by rw [putP_off as _ _ hSn, upd_same]
  refine ⟨putP (upd H S (.lst (as.map V.ref))) as (vx.zip vy), kp, newS, new, hSn, nd, eS, atP, ?_⟩
  refine I.call' (ch := []) rfl ⟨fun b o q _ _ _ => hk b o q, fun b o q _ _ _ => ⟨o.slots, hk b o q⟩, fun b o q n _ => ?_, fun b o q _ => ⟨o, hk b o q⟩, fun b xs q => kp b _ q, fun b o u q => kp b _ q, fun b ps q => ⟨#[], by rw [kp b _ q]; simp⟩⟩ (fun b u q => ?_) I.bare fun b z => by simp at z
  · obtain ⟨z1, z2⟩ := low b o q
    rw [off b z1 z2]
    exact n
  · by_cases hb : b ∈ as
    · obtain ⟨j, pk, e1, e2, e3⟩ := LiI.paired_ix atP hb
      rw [e3] at q
      cases q
      obtain ⟨x, y, f1, f2, f3⟩ := hG.pairs j b e1
      obtain ⟨g1, g2⟩ := List.getElem?_zip_eq_some.mp e2
      obtain ⟨u1, k1, r1⟩ := rx.get g1
      obtain ⟨u2, k2, r2⟩ := ry.get g2
      have m1 : some u1 = some x := by rw [← k1, ← f1]; simp
      have m2 : some u2 = some y := by rw [← k2, ← f2]; simp
      rw [Option.some.inj m1] at r1
      rw [Option.some.inj m2] at r2
      exact ⟨by show 2 ≤ sizeLine; decide, [x, y], .cons r1 (.cons r2 .nil), ⟨_, f3, rfl, _, rfl⟩⟩
    · by_cases hb2 : b = S
      · rw [hb2] at q ⊢
        rw [eS] at q
        cases q
        refine ⟨by rw [List.length_map]; omega, acc.toList, c, by rw [hacc]; exact LiI.vals_refs as, ?_⟩
        rw [Array.toArray_toList]
        exact hS
      · rw [off b hb hb2] at q
        exact (I.hok b u q).stay (fun d v _ y => hk d v y) (fun d y => kp d _ y) fun d xs y => kp d _ y
/-! ### the expression -/
def tListZip (K : PySem.W.Frag) (ta : TA) : TE := fun σ H Q => ta σ H fun vs H1 => ∃ a b xs ys, vs = [.ref a, .ref b] ∧ SqL K H1 a xs ∧ SqL K H1 b ys ∧ xs.length = ys.length ∧ xs.length ≤ sizeLine ∧
  ∀ (H' : Hp) (p : Addr) (ts : List Addr), (∀ b o, H1 b = some o → H' b = some o) → H1 p = none → (∀ t ∈ ts, H1 t = none) → p ∉ ts → ts.Nodup → H' p = some (.lst (ts.map V.ref)) → Paired (fun (t : Addr) (q : V × V) => H' t = some (.tup [q.1, q.2])) ts (xs.zip ys) → Q (.ref p) H'
section
variable {X : Cx} {e e2 : Expr} {ta : TA} {p q pos pos2 : Pos}
theorem pe_listZip (hc : X.calm = true) (hg : Gl X "list") (hm : X.mg "list" = none) (hg2 : Gl X "zip") (hm2 : X.mg "zip" = none) (ha : PA X [e, e2] ta)
    (hs : starEach [e, e2] X.env = (false, eval e X.env) :: starEach [e2] X.env := by rfl) (hpl : (backTo pos2 (starEach [e2] X.env)).any (·.1) = false := by rfl)
    (hs2 : starEach [.Call (.Name "zip" q) [e, e2] [] pos2] X.env = (false, eval (.Call (.Name "zip" q) [e, e2] [] pos2) X.env) :: starEach [] X.env := by rfl) :
    PE X (.Call (.Name "list" p) [.Call (.Name "zip" q) [e, e2] [] pos2] [] pos) (tListZip X.K ta) := by
  refine ⟨fun pins s σ H Q I hq => ?_⟩
  refine wpAny_Call_Name_kw (ld_blt I hg hm (by decide +kernel : bootBuiltins "list" = some (.type "list")) ?_)
  refine PyProof.Rows.callWith_type1 ?_ hs2 rfl
  rw [hs2]
  show wpAny _ _ (spliced ((false, eval (.Call (.Name "zip" q) [e, e2] [] pos2) X.env) :: backTo pos (starEach [] X.env))) _ _ s
  refine Calls.spliced_cons ?_
  refine Call_ (ld_blt I hg2 hm2 PyProof.Rows.boot_zip (PyProof.Rows.callWith_type1 (thn (ha.run pos2 pins s σ H _ I hq) fun us s1 ⟨vs, H1, I1, r1, q1⟩ => ?_) hs hpl))
  obtain ⟨a, b, xs, ys, ex, hqx, hqy, hxy, hsz, q1⟩ := q1
  subst ex
  cases r1 with
  | cons r rr =>
    cases rr with
    | cons r' rr =>
      cases rr
      cases r
      cases r'
      obtain ⟨its, rv, p1, _⟩ := I1.list hqx
      obtain ⟨its2, rv2, p2, _⟩ := I1.list hqy
      have l1 := rv.length
      have l2 := rv2.length
      refine call_zip_2 p1.isList p2.isList fun h' hz hTI hTO h1 h2 hsz' hk => ?_
      refine Calls.spliced_nil ?_
      have D := PySem.W.ktu_apart s1.heap.objs.size a b p1.lt p2.lt
      have e5 : h'.objs.size = s1.heap.objs.size + 5 := hsz'
      refine zip_list (s := { s1 with heap := h' }) (I1.ok.hd hc) D (by simp; omega) (by simp; omega) hz hTI ⟨_, _, hTO⟩ h1 h2 (p1.isList.at fun o e => hk _ o e) (p2.isList.at fun o e => hk _ o e) fun h'' tk acc c as hk2 hS hl hG hacc => ?_
      have keep : ∀ b o, s1.heap.get? b = some o → h''.get? b = some o := fun b o e => by
        have hb := Heap.lt_size e
        have up : ∀ j : Nat, b ≠ s1.heap.objs.size + j := fun j => Nat.ne_of_lt (Nat.lt_of_lt_of_le hb (Nat.le_add_right _ _))
        exact hk2 b o (up 4) (up 3) (up 0) (up 1) (hk b o e)
      obtain ⟨H', k1, k2, k3, k4, k5, k6, k7, J⟩ := zip_laid (tk := tk) I1 hsz (by show s1.heap.objs.size ≤ h'.objs.size; omega) rv rv2 hxy keep hS (by simpa using hl.trans (by simp; omega)) hG hacc
      exact ⟨.ref _, H', J, rfl, q1 H' _ as k1 k2 k3 k4 k5 k6 k7⟩
end
end Z

/-! ## ZO -/
set_option Elab.async false
set_option linter.all false
set_option maxRecDepth 100000
set_option maxHeartbeats 2000000
namespace Z
open PySem PySem.Spec PyProof.Rows L2
theorem fresh_listB {K : PySem.W.Frag} {H0 G H : Hp} {vs : List V} {ds : List PD} {p : Addr} (h : RpA K G vs ds) (hp : H0 p = none) (hG : G p = none) (hH : H p = some (.lst vs)) : ROk K H0 G H (.fr 0 ds) (.ref p) := by
  have hl := h.length
  refine ⟨((p, vs.zip ds) : Addr × List (V × PD)), ?_, rfl, ⟨?_, ?_⟩, ?_, ?_⟩
  · show (vs.zip ds).map (fun x => x.2) = ds
    rw [List.map_snd_zip (by omega)]
  · show H p = some (.lst ((vs.zip ds).map (fun x => x.1)))
    rw [hH, List.map_fst_zip (by omega)]
  · have key : ∀ y ∈ (vs.zip ds : List (V × PD)), Rp K G y.1 y.2 := by
      intro y hy
      obtain ⟨i, hi⟩ := List.mem_iff_getElem?.mp hy
      rw [List.getElem?_zip_eq_some] at hi
      obtain ⟨d, e1, e2⟩ := h.get hi.1
      rw [hi.2] at e1
      cases e1
      exact e2
    exact key
  · have key : ∀ l : List (V × PD), l.Pairwise fun y z => ∀ a ∈ ATy.adr 0 y, a ∉ ATy.adr 0 z := fun l => List.pairwise_of_forall (fun _ _ a ha => nomatch ha)
    exact ⟨fun y _ => ⟨trivial, fun h => nomatch h⟩, key _⟩
  · intro a ha
    have e : a = p := by
      have : a ∈ (p :: (vs.zip ds).flatMap (fun _ => ([] : List Addr))) := ha
      simpa using this
    subst e
    exact ⟨hp, hG⟩
def zipL (ds es : List PD) : List PD := (ds.zip es).map fun p => .tuple [p.1, p.2]
theorem zip_rp {K : PySem.W.Frag} {G : Hp} : ∀ (ts : List Addr) (xs ys : List V) (ds es : List PD), Paired (fun (t : Addr) (q : V × V) => G t = some (.tup [q.1, q.2])) ts (xs.zip ys) → RpA K G xs ds → RpA K G ys es → RpA K G (ts.map V.ref) (zipL ds es)
  | [], [], _, _, _, _, h1, h2 => by cases h1; exact .nil
  | [], _ :: _, [], _, _, _, h1, h2 => by
    cases h2
    cases h1
    exact .nil
  | [], _ :: _, _ :: _, _, _, h, _, _ => by cases h
  | _ :: _, [], _, _, _, h, _, _ => by cases h
  | _ :: _, _ :: _, [], _, _, h, _, _ => by cases h
  | t :: ts, x :: xs, y :: ys, _, _, h, h1, h2 => by
    cases h with
    | cons ht hr =>
      cases h1 with
      | cons a1 b1 =>
        cases h2 with
        | cons a2 b2 => exact .cons (.tup ht (.cons a1 (.cons a2 .nil))) (zip_rp ts xs ys _ _ hr b1 b2)
def lzipD (a b : ED) : ED := fun ρ => (a ρ).bind fun r1 => (b ρ).bind fun r2 => match kidsS r1.fz, kidsS r2.fz with
  | some ds, some es => if ds.length = es.length ∧ ds.length ≤ 100000 then .ok (.fr 0 (zipL ds es)) else .st
  | _, _ => .st
section
variable {X : Cx} {E : XK} {C : CM}
theorem se_lzip {e e2 : Expr} {a b : ED} {p q pos pos2 : Pos} (hc : X.calm = true) (hg : Gl X "list") (hm : X.mg "list" = none) (hg2 : Gl X "zip") (hm2 : X.mg "zip" = none) (ha : SE X E C e a) (hb : SE X E C e2 b)
    (hs : starEach [e, e2] X.env = (false, eval e X.env) :: starEach [e2] X.env := by rfl) (hs1 : starEach [e2] X.env = (false, eval e2 X.env) :: starEach [] X.env := by rfl) (hpl : (backTo pos2 (starEach [e2] X.env)).any (·.1) = false := by rfl)
    (hs2 : starEach [.Call (.Name "zip" q) [e, e2] [] pos2] X.env = (false, eval (.Call (.Name "zip" q) [e, e2] [] pos2) X.env) :: starEach [] X.env := by rfl) :
    SE X E C (.Call (.Name "list" p) [.Call (.Name "zip" q) [e, e2] [] pos2] [] pos) (lzipD a b) := by
  obtain ⟨ta, pa, sa⟩ := ha
  obtain ⟨tb, pb, sb⟩ := hb
  refine ⟨_, pe_listZip hc hg hm hg2 hm2 (pa_cons pa (pa_cons pb pa_nil hs1) hs) hs hpl hs2, ?_⟩
  intro G0 H0 G H σ ρ Q I h
  unfold lzipD at h
  refine sa.useF famO I h fun r1 x G1 H1 e1 g1 I1 k1 h1 => ?_
  refine sb.useF famO I1 h1 fun r2 y G2 H2 e2 g2 I2 k2 h2 => ?_
  have k1' := k1.grow g2
  split at h2
  · rename_i ds es q1 q2
    split at h2
    · rename_i c
      obtain ⟨p, vs, rfl, hp, rv⟩ := k1'.kidsS I2.s q1
      obtain ⟨q, us, rfl, hq, ru⟩ := k2.kidsS I2.s q2
      have l1 := rv.length
      have l2 := ru.length
      refine ⟨p, q, vs, us, rfl, hp, hq, by omega, le_line (by omega), fun H' l ts m1 m2 m3 m4 m5 m6 m7 => ?_⟩
      have sG : Same G2 H' := I2.s.trans m1
      have hn : ∀ t ∈ ts, G2 t = none := fun t ht => I2.s.free (m3 t ht)
      have gr : Grow G2 H2 (know G2 H' ts) H' := ⟨know_same sG hn, m1, know_heap sG, fun b o h1 _ h3 => by
        rw [know_out (fun ht => by rw [m3 b ht] at h1; cases h1)]
        exact h3⟩
      refine h2 _ (know G2 H' ts) H' gr (fresh_listB ?_ m2 (by rw [know_out m4]; exact I2.s.free m2) m6)
      have m7' : Paired (fun (t : Addr) (q : V × V) => know G2 H' ts t = some (.tup [q.1, q.2])) ts (vs.zip us) := by
        have key : ∀ (l : List Addr) (ps : List (V × V)), (∀ t ∈ l, t ∈ ts) → Paired (fun (t : Addr) (q : V × V) => H' t = some (.tup [q.1, q.2])) l ps → Paired (fun (t : Addr) (q : V × V) => know G2 H' ts t = some (.tup [q.1, q.2])) l ps := by
          intro l ps hl hp
          induction hp with
          | nil => exact .nil
          | cons a b ih => exact .cons (by rw [know_in (hl _ List.mem_cons_self)]; exact a) (ih fun t ht => hl t (List.mem_cons_of_mem _ ht))
        exact key ts _ (fun _ h => h) m7
      exact zip_rp ts vs us ds es m7' (rv.up gr.g) (ru.up gr.g)
    · exact h2.elim
  · exact h2.elim
end
end Z

/-! ## ZP -/
set_option Elab.async false
set_option linter.all false
set_option maxRecDepth 100000
set_option maxHeartbeats 2000000
namespace Z
open PySem PySem.Spec PyProof.Rows L2
/-! for x in xs: x.append(e): xs an owned list of owned lists, e a constant -/
def stepT (d : PD) (k : Nat) (t : List (List PD)) : List (List PD) := (t.take k).map (fun u => u ++ [d]) ++ t.drop k
theorem stepT_len (d : PD) (k : Nat) (t : List (List PD)) (h : k ≤ t.length) : (stepT d k t).length = t.length := by
  unfold stepT
  rw [List.length_append, List.length_map, List.length_take, List.length_drop]
  omega
theorem stepT_at (d : PD) (k : Nat) (t : List (List PD)) (h : k < t.length) : (stepT d k t)[k]? = some t[k] := by
  unfold stepT
  rw [List.getElem?_append_right (by rw [List.length_map, List.length_take]; omega), List.length_map, List.length_take, Nat.min_eq_left (by omega), Nat.sub_self, List.getElem?_drop, Nat.add_zero, List.getElem?_eq_getElem h]
theorem stepT_set (d : PD) (k : Nat) (t : List (List PD)) (h : k < t.length) : (stepT d k t).set k (t[k] ++ [d]) = stepT d (k + 1) t := by
  unfold stepT
  have e1 : ((t.take k).map (fun u => u ++ [d])).length = k := by rw [List.length_map, List.length_take]; omega
  rw [List.set_append_right _ _ (by omega), e1, Nat.sub_self, List.drop_eq_getElem_cons h, List.set_cons_zero, List.take_add_one, List.getElem?_eq_getElem h, List.map_append, List.append_assoc]
  rfl
theorem stepT_all (d : PD) (t : List (List PD)) : stepT d t.length t = t.map fun u => u ++ [d] := by
  unfold stepT
  rw [List.take_length, List.drop_length, List.append_nil]
theorem stepT_zero (d : PD) (t : List (List PD)) : stepT d 0 t = t := rfl
noncomputable def appAllD (i j : Nat) (d : PD) : SD := fun ρ => match ρ[i]? with
  | some (.ow 1 t) => if (∀ u ∈ (show List (List PD) from t), u.length ≤ 1000) ∧ i ≠ j ∧ j < ρ.length then .nx ((ρ.set j .no).set i (.ow 1 ((show List (List PD) from t).map fun u => u ++ [d]))) else .st
  | _ => .st
theorem EnvOk.blur {K : PySem.W.Frag} {G0 H0 G H : Hp} {σ : L2.St} {ρ : Env} (I : EnvOk K G0 H0 G H σ ρ) (j : Nat) (o : Option V) (h : ρ[j]? = some .no ∨ ρ[j]? = none) : EnvOk K G0 H0 G H (σ.set j o) ρ := by
  obtain ⟨len, b, w, hw⟩ := I
  refine ⟨by rw [List.length_set]; exact len, b, w, fun i e he => ?_⟩
  by_cases c : j = i
  · subst c
    rcases h with h | h
    · rw [h] at he; cases he; trivial
    · rw [h] at he; cases he
  · have := hw i e he
    rw [List.getD_eq_getElem?_getD, List.getElem?_set_ne c, ← List.getD_eq_getElem?_getD]
    exact this
theorem EnvOk.lose {K : PySem.W.Frag} {G0 H0 G H : Hp} {σ : L2.St} {ρ : Env} (I : EnvOk K G0 H0 G H σ ρ) (j : Nat) : EnvOk K G0 H0 G H σ (ρ.set j .no) := by
  obtain ⟨len, b, w, hw⟩ := I
  refine ⟨by rw [List.length_set]; exact len, b, w, fun i e he => ?_⟩
  by_cases c : j = i
  · subst c
    by_cases hl : j < ρ.length
    · rw [List.getElem?_set_self hl] at he; cases he; trivial
    · rw [List.getElem?_eq_none (by simp; omega)] at he; cases he
  · rw [List.getElem?_set_ne c] at he
    exact hw i e he
theorem modP_cons0 (f : LF) (n : Nat) (l : Ty (n + 2)) (j : Nat) (r : List Nat) (u : Ty (n + 1)) (h : (Ty.ks l)[j]? = some u) : modP f (n + 1) l (j :: r) = (modP f n u r).map fun u' => (Ty.ks l).set j u' := by
  show (match (Ty.ks l)[j]? with
    | some u => match modP f n u r with
      | some u' => some ((Ty.ks l).set j u')
      | none => none
    | none => none) = _
  rw [h]
  show (match modP f n u r with
      | some u' => some ((Ty.ks l).set j u')
      | none => none) = _
  cases modP f n u r <;> rfl
/-- the outer list, as it stands -/
theorem EnvOk.outer {K : PySem.W.Frag} {G0 H0 G H : Hp} {σ : L2.St} {ρ : Env} (I : EnvOk K G0 H0 G H σ ρ) {i : Nat} {t : List (List PD)} (hi : ρ[i]? = some (.ow 1 t)) : ∃ A vs, σ.getD i none = some (.ref A) ∧ H A = some (.lst vs) ∧ vs.length = t.length ∧ ∀ (k : Nat), k < t.length → ∃ a us, vs[k]? = some (.ref a) ∧ H a = some (.lst us) := by
  obtain ⟨len, b, w, hw⟩ := I
  obtain ⟨x, x1, x2, x3, x4, x5⟩ := hw i _ hi
  obtain ⟨A, ys⟩ : Addr × List (ATy 1) := x
  have lt : ys.length = t.length := by
    have e : List.map (ATy.era 1) ys = t := x2
    have := congrArg List.length e
    rw [List.length_map] at this
    exact this
  refine ⟨A, ys.map (ATy.val 1), x1, x3.1, by rw [List.length_map]; exact lt, fun k hk => ?_⟩
  have hk' : k < ys.length := by rw [lt]; exact hk
  have m := x3.2 _ (List.getElem_mem hk')
  obtain ⟨a, zs, e⟩ : ∃ (a : Addr) (zs : List (V × PD)), ys[k] = ((a, zs) : Addr × List (V × PD)) := ⟨ys[k].1, ys[k].2, rfl⟩
  rw [e] at m
  refine ⟨a, _, ?_, m.1⟩
  rw [List.getElem?_map, List.getElem?_eq_getElem hk', Option.map_some, e]
  rfl
section
variable {X : Cx} {E : XK} {C : CM}
theorem ss_appAll (i j : Nat) {x y : Str} {e : Expr} {de : ED} {d : PD} {xpos ypos ypos2 apos cpos epos pos : Pos} (hp : PassesOwn (model X.prog X.w) X.A X.env X.xe) (hc : X.calm = true) (hN : X.N.Nodup) (hx : X.N[i]? = some x) (hy : X.N[j]? = some y)
    (hlx : Vis X.env.scope x) (hly : Vis X.env.scope y) (hloc : Loc X.env.scope y) (hf : X.fn y = true ∨ X.env.scope.names.lookup y = some .local) (hdx : (x == ("__debug__" : Str)) = false) (hdy : (y == ("__debug__" : Str)) = false) (hcx : (x == ("__classdict__" : Str)) = false) (hcy : (y == ("__classdict__" : Str)) = false)
    (he : SE X E C e de) (hd : ∀ ρ, de ρ = .ok (.im d)) (hij : i ≠ j)
    (hst : starEach [e] X.env = (false, eval e X.env) :: starEach [] X.env := by rfl)
    (hpp : ∀ to t, PE X (.Name y ypos2) to → PA X [e] t → PE X (.Call (.Attribute (.Name y ypos2) "append" apos) [e] [] cpos) (tBM X.K "list" rAppend to t))
    (hs : swapsWith (.Call (.Attribute (.Name y ypos2) "append" apos) [e] [] cpos) none epos.line X.env = pure false := by rfl)
    (hfs : ∀ z, foldedSetIterable (.Name x xpos) X.env z = pure z := by intro _; rfl) :
    SS X E C (.For (.Name y ypos) (.Name x xpos) [.Expr (.Call (.Attribute (.Name y ypos2) "append" apos) [e] [] cpos) epos] [] pos) (appAllD i j d) := by
  obtain ⟨te, pe, se⟩ := he
  have pv := pe_var (X := X) (pos := xpos) hx hlx hdx hcx
  have pw := pe_var (X := X) (pos := ypos2) hy hly hdy hcy
  refine ⟨_, ps_for hp hc (pi_list pv) (pg_name hN hy hloc hf) (pss_one (ps_expr (hpp _ _ pw (pa_cons pe pa_nil hst)) hs)) hfs, fun G0 H0 G H σ ρ D I h => ?_⟩
  unfold appAllD at h
  split at h
  · rename_i t hi
    split at h
    · rename_i c
      have I0 := I.lose j
      have hi0 : (ρ.set j .no)[i]? = some (.ow 1 t) := by rw [List.getElem?_set_ne (Ne.symm hij)]; exact hi
      obtain ⟨A, vs0, q1, q2, q3, _⟩ := I0.outer hi0
      obtain ⟨T, eT⟩ : ∃ T : List (List PD), T = t := ⟨t, rfl⟩
      have cT : ∀ u ∈ T, u.length ≤ 1000 := by rw [eT]; exact c.1
      have il : i < ρ.length := (List.getElem?_eq_some_iff.mp hi).1
      have rset : ∀ T' : List (List PD), ((ρ.set j .no).set i (.ow 1 T'))[i]? = some (.ow 1 T') := fun T' => List.getElem?_set_self (by rw [List.length_set]; exact il)
      have rno : ∀ T' : List (List PD), ((ρ.set j .no).set i (.ow 1 T'))[j]? = some .no ∨ ((ρ.set j .no).set i (.ow 1 T'))[j]? = none := fun T' => by
        rw [List.getElem?_set_ne hij]
        by_cases hl : j < ρ.length
        · exact .inl (List.getElem?_set_self hl)
        · exact .inr (List.getElem?_eq_none (by rw [List.length_set]; omega))
      have e0 : (ρ.set j .no).set i (.ow 1 (stepT d 0 T)) = ρ.set j .no := by
        rw [stepT_zero, eT]
        apply List.ext_getElem?
        intro k
        by_cases ck : i = k
        · subst ck
          rw [List.getElem?_set_self (by rw [List.length_set]; exact il)]
          exact hi0.symm
        · rw [List.getElem?_set_ne ck]
      refine ⟨(.ref A), getD_some q1, A, rfl, ⟨vs0, SqL.of q2⟩, ?_⟩
      refine ⟨fun k m σ' H' => ∃ G', EnvOk X.K G0 H0 G' H' σ' ((ρ.set j .no).set i (.ow 1 (stepT d k T))) ∧ Same G G' ∧ σ'.getD i none = some (.ref A) ∧ m = T.length - k ∧ k ≤ T.length, ⟨T.length, G, by rw [e0]; exact I0, Same.refl _, q1, rfl, Nat.zero_le _⟩, ?_⟩
      rintro k m σ' H' ⟨G', I', s', qA, rfl, hk⟩
      obtain ⟨A', vs, w1, w2, w3, w4⟩ := I'.outer (rset _)
      have eA : A' = A := by
        rw [qA] at w1
        cases w1
        rfl
      subst eA
      rw [stepT_len d k T hk] at w3 w4
      by_cases hlt : k < T.length
      · obtain ⟨a, us, a1, a2⟩ := w4 k hlt
        refine .inr ⟨⟨vs, .ref a, SqL.of w2, a1⟩, fun σ2 H2 => ∃ G', EnvOk X.K G0 H0 G' H2 σ2 ((ρ.set j .no).set i (.ow 1 (stepT d (k + 1) T))) ∧ Same G G' ∧ σ2.getD i none = some (.ref A'), fun σ2 H2 ⟨G2, b1, b2, b3⟩ => ⟨T.length - (k + 1), by omega, G2, b1, b2, b3, rfl, hlt⟩, ?_⟩
        rintro v H2 ⟨rfl, hy2⟩
        have ev := hy2 vs (SqL.of w2)
        rw [a1] at ev
        cases ev
        have I2 := I'.blur j (some (.ref a)) (rno _)
        have jl : j < σ'.length := by
          rw [I'.len, List.length_set, List.length_set]
          exact c.2.2
        have qi : (σ'.set j (some (.ref a))).getD i none = some (.ref A') := by
          rw [List.getD_eq_getElem?_getD, List.getElem?_set_ne (Ne.symm hij), ← List.getD_eq_getElem?_getD]
          exact qA
        show tDrop _ _ (σ'.set j (some (.ref a))) H2
        refine ⟨(.ref a), List.getElem?_set_self jl, .inl ⟨rfl, us, SqL.of a2⟩, ?_⟩
        refine se G0 H0 G' H2 _ _ _ I2 ?_
        rw [hd]
        intro z G3 H3 g3 r3
        have I3 := I2.grow g3
        have em : modP (apF d) 1 (stepT d k T) [k] = some (stepT d (k + 1) T) := by
          have m0 : modP (apF d) 0 T[k] [] = some (T[k] ++ [d]) := if_pos (Nat.le_trans (cT _ (List.getElem_mem hlt)) (by decide))
          have m1 := modP_cons0 (apF d) 0 (stepT d k T) k [] T[k] (stepT_at d k T hlt)
          rw [m0] at m1
          refine m1.trans ?_
          show some ((stepT d k T).set k (T[k] ++ [d])) = _
          rw [stepT_set d k T hlt]
        obtain ⟨a', xs, ea, ha, hl, I4⟩ := app_step (r := .im d) (f := apF d) (p := [k]) (v := .ref a) I3.r (rset _) r3 (F := []) (fun m u e => by cases e) rfl em (fun v0 e0 => by
          rw [qi] at e0
          cases e0
          show (match H3 A' with
            | some (.lst vs) => match vs[k]? with
              | some u => pathV H3 u []
              | none => none
            | _ => none) = some (.ref a)
          rw [g3.h _ _ w2]
          simp only [a1]
          rfl)
        cases ea
        refine ⟨a, xs, z, rfl, rfl, ha, hl, ?_⟩
        refine ⟨G3, ?_, s'.trans g3.g, qi⟩
        have : ((ρ.set j .no).set i (.ow 1 (stepT d k T))).set i (.ow 1 (stepT d (k + 1) T)) = (ρ.set j .no).set i (.ow 1 (stepT d (k + 1) T)) := List.set_set _
        rw [← this]
        exact I4
      · have ek : k = T.length := by omega
        subst ek
        refine .inl ⟨⟨vs, SqL.of w2, by omega⟩, ?_⟩
        rw [stepT_all, eT] at I'
        exact h σ' G' H' s' I'
    · exact h.elim
  · exact h.elim
end
end Z

/-! ## ZQ -/
set_option Elab.async false
set_option linter.all false
set_option maxRecDepth 100000
set_option maxHeartbeats 2000000
namespace Z
open PySem PySem.Spec PyProof.Rows L2
/-! [x.pop(e) for j in ..]: x an owned list of known things -/
def popL (i j : Nat) (e : ED) : List PD → Env → Option (List PD × List PD)
  | [], ρ => match ρ[i]? with
    | some (.ow 0 t) => some ([], t)
    | _ => none
  | d :: ds, ρ => match e ((ρ.set j .no).set j (.im d)) with
    | .ok r => match popAt ρ i r with
      | some (_, dd, t') => match popL i j e ds (ρ.set i (.ow 0 t')) with
        | some (ys, l) => some (dd :: ys, l)
        | none => none
      | none => none
    | _ => none
def lcPopX (s : LD) (i j : Nat) (e : ED) : EX := fun ρ => match s ρ with
  | .ok ds => match popL i j e ds ρ with
    | some (ys, l) => if ys.length ≤ 100000 ∧ i ≠ j then .ok (.fr 0 ys) (ρ.set i (.ow 0 l)) else .st
    | none => .st
  | .ex c => .ex c ρ
  | .st => .st
theorem hide_upd_ne {H : Hp} {D a : Addr} {o : HO} (h : a ≠ D) : upd (hide H D) a o = hide (upd H a o) D := by
  funext b
  by_cases hb : b = D
  · subst hb
    rw [hide_same, upd_ne (Ne.symm h), hide_same]
  · rw [hide_ne hb]
    by_cases hc : b = a
    · subst hc
      rw [upd_same, upd_same]
    · rw [upd_ne hc, upd_ne hc, hide_ne hb]
section
variable {X : Cx} {E : XK} {C : CM}
theorem sx_lcPop (i j : Nat) {e tg iter : Expr} {x : Str} {xp : Pos} {apos cpos : Pos} {scope : Scope} {y : Str} {pos : Pos} {s : LD} {d : ED} (hc : X.calm = true) (hN : X.N.Nodup) (hi : SI X E C tg iter s) (ok : BlkOk X.N X.env.scope scope [(y, j)])
    (hg : ∀ b : Bk, SG (b.x X scope) tg (.nm j)) (he : ∀ b : Bk, SE (b.x X scope) E0 C e d)
    (hx : ∀ b : Bk, PE (b.x X scope) (.Name x xp) (tVar i))
    (hst : ∀ b : Bk, starEach [e] (b.x X scope).env = (false, eval e (b.x X scope).env) :: starEach [] (b.x X scope).env)
    (hp : ∀ (b : Bk) to t, PE (b.x X scope) (.Name x xp) to → PA (b.x X scope) [e] t → PE (b.x X scope) (.Call (.Attribute (.Name x xp) "pop" apos) [e] [] cpos) (tBM X.K "list" rPopAt to t))
    (hs : ∀ z, foldedSetIterable iter X.env z = pure z := by intro _; rfl) :
    SX X E C (.ListComp (.Call (.Attribute (.Name x xp) "pop" apos) [e] [] cpos) [⟨tg, iter, [], 0⟩] scope pos) (lcPopX s i j d) := by
  obtain ⟨wi, pw, sw⟩ := hi
  obtain ⟨te, pe, se⟩ := blk_e he
  refine ⟨_, pe_lc hc hN pw ok (fun s H C cl fp => (hg ⟨s, H, C, cl, fp⟩).p) (fun s H C cl fp => pts_nil) (fun s H C cl fp => hp ⟨s, H, C, cl, fp⟩ _ _ (hx ⟨s, H, C, cl, fp⟩) (pa_cons (pe ⟨s, H, C, cl, fp⟩) pa_nil (hst ⟨s, H, C, cl, fp⟩))) hs, ?_⟩
  intro G0 H0 G H σ ρ Q I h
  unfold lcPopX at h
  refine sw G0 H0 G H σ ρ _ I ?_
  cases es : s ρ with
  | st => rw [es] at h; exact h
  | ex c => rw [es] at h; exact fun G' H' g => h G' H' g.g (I.grow g)
  | ok ds =>
    rw [es] at h
    intro J G1 H1 g1 wk D hD
    have I1 := I.grow g1
    cases ep : popL i j d ds ρ with
    | none => simp only [ep] at h; exact h.elim
    | some w =>
      obtain ⟨ys, l⟩ := w
      simp only [ep] at h
      split at h
      · rename_i c
        obtain ⟨cl, hij⟩ := c
        have s1 : Same H1 (hide (upd H1 D (.lst [])) D) := by rw [hide_upd]; exact same_to_hide (Same.refl _) hD
        have gs : Grow G1 H1 G1 (hide (upd H1 D (.lst [])) D) := ⟨Same.refl _, s1, I1.s.trans s1, fun _ _ _ _ h => h⟩
        refine ⟨fun k m H2 => ∃ G2 acc out rest ρ', EnvOk X.K G0 H0 G2 (hide H2 D) σ ρ' ∧ Same G1 G2 ∧ G2 D = none ∧ H2 D = some (.lst acc) ∧ RpA X.K G2 acc out ∧ m = ds.length - k ∧ k ≤ ds.length ∧ popL i j d (ds.drop k) ρ' = some (rest, l) ∧ ys = out ++ rest ∧ ρ'.set i (.ow 0 l) = ρ.set i (.ow 0 l),
          ⟨ds.length, G1, [], [], ys, ρ, I1.grow gs, Same.refl _, I1.s.free hD, upd_same, .nil, rfl, Nat.zero_le _, ep, rfl, rfl⟩, ?_⟩
        rintro k m H2 ⟨G2, acc, out, rest, ρ', Jb, sG, nG, hacc, rv, rfl, hk, hr, hy, hρ⟩
        have gu : Grow G2 (hide H2 D) G2 H2 := Grow.unhide Jb.s
        have I2 := Jb.grow gu
        by_cases hlt : k < ds.length
        · have hd : ds[k]? = some ds[k] := List.getElem?_eq_getElem hlt
          obtain ⟨go, yl⟩ := (wk k H2 (sG.trans I2.s)).2 _ hd
          refine .inr ⟨go, fun H3 => ∃ G3 acc out rest ρ', EnvOk X.K G0 H0 G3 (hide H3 D) σ ρ' ∧ Same G1 G3 ∧ G3 D = none ∧ H3 D = some (.lst acc) ∧ RpA X.K G3 acc out ∧ popL i j d (ds.drop (k + 1)) ρ' = some (rest, l) ∧ ys = out ++ rest ∧ ρ'.set i (.ow 0 l) = ρ.set i (.ow 0 l), fun H3 ⟨G3, acc, out, rest, ρ', a1, a2, a3, a4, a5, a6, a7, a8⟩ => ⟨ds.length - (k + 1), by omega, G3, acc, out, rest, ρ', a1, a2, a3, a4, a5, rfl, hlt, a6, a7, a8⟩, fun v H3 hyl => ?_⟩
          obtain ⟨G3, g3, rd⟩ := yl v H3 hyl G2 sG I2.s
          have I3 := I2.grow g3
          rw [List.drop_eq_getElem_cons hlt] at hr
          unfold popL at hr
          have I4 : EnvOk X.K G0 H0 G3 H3 ((wipe σ [j]).set j (some v)) ((ρ'.set j .no).set j (.im ds[k])) := (I3.wipe [j]).setIm j rd
          have hw0 : wipe ((wipe σ [j]).set j (some v)) [j] = wipe (wipe σ [j]) [j] := wipe_set List.mem_cons_self
          simp only [List.map_cons, List.map_nil, tYes, if_true]
          show wipe ((wipe σ [j]).set j (some v)) [j] = wipe σ [j] ∧ _
          generalize (wipe σ [j]).set j (some v) = σ3 at *
          have hw : ∀ us : List Nat, us = [j] → wipe σ3 us = wipe (wipe σ [j]) us := fun us e => by subst e; exact hw0
          refine ⟨?_, ?_⟩
          · exact hw0.trans (wipe_wipe [j] σ)
          · show tBM _ _ _ _ _ σ3 H3 _
            cases ee : d ((ρ'.set j .no).set j (.im ds[k])) with
            | ex c => rw [ee] at hr; cases hr
            | st => rw [ee] at hr; cases hr
            | ok r =>
              rw [ee] at hr
              cases eq : popAt ρ' i r with
              | none => simp only [eq] at hr; cases hr
              | some w =>
                obtain ⟨jj, dd, t'⟩ := w
                simp only [eq] at hr
                cases er : popL i j d (ds.drop (k + 1)) (ρ'.set i (.ow 0 t')) with
                | none => simp only [er] at hr; cases hr
                | some w2 =>
                  obtain ⟨ys2, l2⟩ := w2
                  simp only [er] at hr
                  have e1 : dd :: ys2 = rest := congrArg Prod.fst (Option.some.inj hr)
                  have e2 : l2 = l := congrArg Prod.snd (Option.some.inj hr)
                  subst e2
                  obtain ⟨kk, t, k1, k2, k3, k4, k5, k6⟩ := popAt_eq eq
                  have k2' : ((ρ'.set j .no).set j (.im ds[k]))[i]? = some (.ow 0 t) := by
                    rw [List.getElem?_set_ne (Ne.symm hij), List.getElem?_set_ne (Ne.symm hij)]
                    exact k2
                  obtain ⟨a0, xs0, y0, b1, b2, _⟩ := pop_step I4 k2' k4
                  refine ⟨_, getD_some b1, .inl ⟨rfl, _, SqL.of b2⟩, ?_⟩
                  refine se G0 H0 G3 H3 σ3 _ _ I4 ?_
                  rw [ee]
                  intro v5 G5 H5 g5 r5
                  have kv := r5.rp g5.s
                  rw [k1] at kv
                  cases kv
                  have g35 := g3.trans g5
                  obtain ⟨gh, nG5⟩ := (Grow.refl Jb.s).rehide g35 hide_same hacc trivial nG
                  have Jb5 := Jb.grow gh
                  obtain ⟨a, xs, w, c1, c2, c3, c4, c5, c6⟩ := pop_step Jb5 k2 k4
                  have ha : a ≠ D := fun e => by subst e; rw [hide_same] at c2; cases c2
                  have c2' : H5 a = some (.lst xs) := by rw [hide_ne ha] at c2; exact c2
                  have eav : a0 = a := by
                    obtain ⟨a', xs', w', p1, p2, _⟩ := pop_step I3 k2 k4
                    have q1 : σ3.getD i none = some (.ref a0) := b1
                    have I3' := I4
                    rw [c1] at p1
                    cases p1
                    have := hw [j] rfl
                    have hne : (wipe σ3 [j]).getD i none = (wipe (wipe σ [j]) [j]).getD i none := by rw [this]
                    rw [wipe_wipe] at hne
                    have u1 : ∀ τ : L2.St, (wipe τ [j]).getD i none = τ.getD i none := fun τ => by
                      show (τ.set j none).getD i none = _
                      rw [List.getD_eq_getElem?_getD, List.getElem?_set_ne (Ne.symm hij), ← List.getD_eq_getElem?_getD]
                    rw [u1, u1, q1, c1] at hne
                    cases hne
                    rfl
                  subst eav
                  obtain ⟨q1, q2, q3, q4⟩ := ixN_seq k3
                  have hD5 : H5 D = some (.lst acc) := g35.h _ _ hacc
                  have hl := rv.length
                  have hl2 : out.length ≤ ys.length := by rw [hy]; simp
                  refine ⟨a0, xs, kk, jj, w, rfl, rfl, c2', by omega, by omega, by rw [c3]; exact q1, c4, ?_⟩
                  refine ⟨acc, by rw [upd_ne (Ne.symm ha)]; exact hD5, lt_line (by omega), G5, acc ++ [w], out ++ [dd], ys2, ρ'.set i (.ow 0 t'), ?_, sG.trans g35.g, nG5, upd_same, (rv.up g35.g).snoc c5, er, by rw [hy, ← e1]; simp, by rw [List.set_set]; exact hρ⟩
                  rw [hide_upd, ← hide_upd_ne ha, k5]
                  exact c6
        · have ek : k = ds.length := by omega
          refine .inl ⟨(wk k H2 (sG.trans I2.s)).1 (by omega), ?_⟩
          rw [ek, List.drop_length] at hr
          unfold popL at hr
          split at hr
          · rename_i t et
            have e1 : rest = [] := (congrArg Prod.fst (Option.some.inj hr)).symm
            have e2 : t = l := congrArg Prod.snd (Option.some.inj hr)
            subst e1
            subst e2
            rw [List.append_nil] at hy
            subst hy
            have eρ : ρ' = ρ.set i (.ow 0 t) := by
              rw [← hρ]
              apply List.ext_getElem?
              intro q
              by_cases cq : i = q
              · subst cq
                rw [List.getElem?_set_self (List.getElem?_eq_some_iff.mp et).1]
                exact et
              · rw [List.getElem?_set_ne cq]
            rw [← eρ] at h
            have fr := Jb.fresh gu (F := [D]) fun a ha => by
              have : a = D := by simpa using ha
              subst this
              exact ⟨hide_same, nG⟩
            refine h (.ref D) G2 H2 [D] (g1.g.trans sG) fr ?_
            have z := fresh_acc (H0 := hide H2 D) rv hacc hide_same nG
            obtain ⟨x, x1, x2, x3, x4, x5⟩ := z
            refine ⟨x, x1, x2, x3, x4, fun a ha => ?_⟩
            have hz := (x5 a ha).1
            by_cases q : a = D
            · subst q; exact List.mem_singleton.mpr rfl
            · exfalso
              have eD : x.1 = D := by
                have : ATy.val 1 x = .ref D := x2
                have h3 : V.ref x.1 = .ref D := this
                cases h3
                rfl
              have ha' : a ∈ x.1 :: (x.2 : List (ATy 0)).flatMap (fun _ => ([] : List Addr)) := ha
              rw [eD] at ha'
              have : a = D := by simpa using ha'
              exact q this
          · cases hr
      · exact h.elim
end
end Z

/-! ## ZR -/
set_option Elab.async false
set_option linter.all false
set_option maxRecDepth 100000
set_option maxHeartbeats 2000000
namespace Z
open PySem PySem.Spec PyProof.Rows L2
/-! ### an own class whose __init__ raises -/
def SpI (K : PySem.W.Frag) (C : CM) (n : Nat) (f : List PD → Out R) : Sp := fun vs H Q E => ∃ (v : V) (us : List V) (G : Hp) (ds : List PD),
  vs = v :: us ∧ Same G H ∧ RpA K G us ds ∧ ds.length = n ∧ ∃ c, f ds = .ex c ∧ ∀ G' H', Grow G H G' H' → E (C c) none H'
def denI (N k : Nat) (d : SD) : List PD → Out R := fun ds => outS (d (.no :: ds.map Ent.im ++ List.replicate (N - (k + 1)) Ent.no))
theorem start_okI {K : PySem.W.Frag} {G H : Hp} {N : List Str} {vs : List V} {ds : List PD} {k : Nat} (v : V) (s : Same G H) (r : RpA K G vs ds) (hn : ds.length = k) (hN : k + 1 ≤ N.length) :
    EnvOk K G H G H (L2.start N (v :: vs)) (.no :: ds.map Ent.im ++ List.replicate (N.length - (k + 1)) Ent.no) := by
  have hl := r.length
  refine ⟨by simp [L2.start]; omega, Grow.refl s, fun a => none, fun i e he => ?_⟩
  cases i with
  | zero =>
    cases he
    trivial
  | succ i =>
    have he : (ds.map Ent.im ++ List.replicate (N.length - (k + 1)) Ent.no)[i]? = some e := by simpa using he
    by_cases h : i < ds.length
    · rw [List.getElem?_append_left (by simpa using h)] at he
      rw [List.getElem?_map] at he
      cases q : ds[i]? with
      | none => rw [q] at he; cases he
      | some d =>
        rw [q] at he
        cases he
        obtain ⟨v, e1, e2⟩ := r.getD q
        refine ⟨v, ?_, e2⟩
        unfold L2.start
        rw [List.getD_eq_getElem?_getD, List.getElem?_append_left (by simp [hl]; omega), List.getElem?_map]
        show ((vs[i]?).map some).getD none = some v
        rw [e1]
        rfl
    · rw [List.getElem?_append_right (by simpa using h)] at he
      have e2 := List.mem_of_getElem? he
      rw [List.mem_replicate] at e2
      rw [e2.2]
      trivial
section
variable {P : Program} {w : World} {K : PySem.W.Frag} {mg : Str → Option Value} {base : Heap} {C : CM}
theorem fnOk_ofI {x qual : Str} {params : Arguments} {body : List Stmt} {scope : Scope} {f : Addr} {fd : FuncData} {N ps : List Str} {k n : Nat} {den : SD} (F : FunD K x qual params body scope [] [] f fd) (S : FnScope N ps scope) (hn : ps.length = n + 1) (hN : n + 1 ≤ N.length)
    (hbody : ∀ (cdv : Value) (A : Around) (outer : List PySem.Env) (s : Shared) (H : Hp) (E : XK), Room k (A.deeper (envOfC qual scope s.heap.objs.size f cdv)) →
      SB (cxOf (L2N.CX P w) P w K mg base N qual scope f cdv A outer s H E) E C body den) :
    FnOk P w K mg base (L2N.CX P w) (k + 1) f fd ps (SpI K C n (denI N.length n den)) := by
  refine F.ok S (fun vs H Q E h => ?_) (fun cdv A outer s H vs Q E hr h => ?_)
  · obtain ⟨v, us, G, ds, rfl, s, r, l, _⟩ := h
    rw [List.length_cons, r.length, l, hn]
  · obtain ⟨v, us, G, ds, rfl, sm, r, l, c, ec, q⟩ := h
    obtain ⟨t, p, sim⟩ := hbody cdv A outer s H E hr
    refine ⟨t, p, sim G H G H _ _ _ (start_okI v sm r l hN) (SOk.out (?_ : OOk K E C G H Q (denI N.length n den ds)))⟩
    rw [ec]
    exact q
/-- a class whose objects others try to make -/
structure CalI (P : Program) (w : World) (K : PySem.W.Frag) (mg : Str → Option Value) (base : Heap) (C : CM) (x : Str) (k n : Nat) (ps : List Str) (fn : List PD → Out R) : Prop where
  p : ∃ (f Cl : Addr) (fd : FuncData), Mk K Cl f ∧ FnOk P w K mg base (L2N.CX P w) k f fd ps (SpI K C n fn) ∧ mg x = some (.ref Cl) ∧ Binds K fd ps []
end
section
variable {X : Cx} {E : XK} {C : CM}
@[simp] def mkID (f : List PD → Out R) (a : AD) : ED := fun ρ => (a ρ).bind fun rs => match f (rs.map R.dat) with
  | .ex c => .ex c
  | _ => .st
theorem se_mkI {k kk n : Nat} {ps : List Str} {fn : List PD → Out R} {x : Str} {e : Expr} {es : List Expr} {a : AD} {p pos : Pos} (G : CalI X.prog X.w X.K X.mg X.base C x k n ps fn) (hr : Room kk X.A) (hk : k + 1 ≤ kk) (hx : Passes (L2N.CX X.prog X.w) X E)
    (hl : ALen a n) (ha : SA X E C (e :: es) a) (hg : Gl X x := by rfl) (hdb : (x == ("__debug__" : Str)) = false := by decide) (he : starEach (e :: es) X.env = (false, eval e X.env) :: starEach es X.env := by rfl) (hpl : (backTo pos (starEach es X.env)).any (·.1) = false := by rfl) :
    SE X E C (.Call (.Name x p) (e :: es) [] pos) (mkID fn a) := by
  obtain ⟨f, Cl, fd, M, F, hm, hb⟩ := G.p
  obtain ⟨ta, pa, sa⟩ := ha
  refine ⟨_, pe_make M F (hr.mono hk) hg hm hb .nil hx pa hdb he hpl, ?_⟩
  intro G0 H0 G H σ ρ Q I h
  unfold mkID at h
  refine sa.use famO I h fun rs vs G1 H1 e1 g1 I1 k1 h1 => ?_
  intro y dx hy hd hne
  rw [List.append_nil]
  have n2 : (upd H1 dx (.own y)) y = none := by rw [upd_ne (Ne.symm hne)]; exact hy
  have g2 : Grow G1 H1 G1 (upd (upd H1 dx (.own y)) y (.ins Cl dx [])) := (Grow.new I1.s hd).trans (Grow.new (I1.s.trans (same_upd hd)) n2)
  have s2 := I1.s.trans g2.h
  refine ⟨_, vs, _, rs.map R.dat, rfl, Same.refl _, (k1.rp I1.s).up g2.h, by rw [List.length_map]; exact hl.l _ _ e1, ?_⟩
  cases ef : fn (rs.map R.dat) with
  | ok r => rw [ef] at h1; exact h1.elim
  | st => rw [ef] at h1; exact h1.elim
  | ex c =>
    rw [ef] at h1
    refine ⟨c, rfl, fun G' H' g => ?_⟩
    have hs : Same H1 H' := g2.h.trans g.h
    exact h1 (tupG G1 H') H' ⟨tupG_same (I1.s.trans hs), hs, tupG_heap (I1.s.trans hs), fun a o h2 h3 h4 => tupG_none (hs _ _ h2) h3 h4⟩
end
end Z
namespace Z
open PySem PySem.Spec PyProof.Rows L2

section
variable {X : Cx} {E : XK} {C : CM}
/-! ### try: f(..), except D as e: suite that returns -/
open Classical in
noncomputable def tryU (f : List PD → Out R) (a : AD) (i : Nat) (su : String → Option (Addr → SD)) : SD := fun ρ => match noX (a ρ) with
  | .ok rs => if rs.all R.isIm then match f (rs.map R.dat) with
    | .ok _ => .nx ρ
    | .ex c => match su c with
      | some s => if (∀ a : Addr, s a (ρ.set i (.vv (.ref a))) = s 0 (ρ.set i (.vv (.ref 0)))) then match s 0 (ρ.set i (.vv (.ref 0))) with
        | .nx ρ' => .nx (ρ'.set i .no)
        | .rt r => .rt r
        | _ => .st
        else .st
      | none => .st
    | .st => .st
    else .st
  | _ => .st
theorem ss_tryU {k kk n i : Nat} {ps : List Str} {fn : List PD → Out R} {x nm cx : Str} {cv : Value} {e : Expr} {es : List Expr} {a : AD} {b₀ : Stmt} {suite : List Stmt} {p cpos epos np pos' pos : Pos} (su : String → Option (Addr → SD)) (G : Cal X.prog X.w X.K X.mg X.base C x k n ps fn) (hr : Room kk X.A) (hk : k ≤ kk)
    (hl : ALen a n) (ha : ∀ pn xe, SA (X.tr pn xe) EF C (e :: es) a) (hs : X.stack = X.env :: X.outer) (hf : X.env.frame = some X.env.locals) (hN : X.N.Nodup) (hi : X.N[i]? = some nm) (hln : X.env.kindOf nm = some .local) (hc : Names X cx cv) (tk : L2N.Takes X (fun cls d _ H => E cls d H))
    (hcat : ∀ c s, su c = some s → PySem.W.exmOne X.K (C c) cv = some true)
    (hsu : ∀ c s, su c = some s → ∀ a oe pn, L2N.Zn (C c) none oe → (∃ vs, oe.data = .fields vs) → SB (X.suite a ((a, oe) :: pn)) EF C (b₀ :: suite) (s a))
    (hg : Gl X x := by rfl) (hdb : (x == ("__debug__" : Str)) = false := by decide) (he : starEach (e :: es) X.env = (false, eval e X.env) :: starEach es X.env := by rfl) (hpl : (backTo cpos (starEach es X.env)).any (·.1) = false := by rfl)
    (hsw : swapsWith (.Call (.Name x p) (e :: es) [] cpos) none epos.line X.env = pure false := by rfl) :
    SS X E C (.Try [.Expr (.Call (.Name x p) (e :: es) [] cpos) epos] [.ExceptHandler (some (.Name cx np)) (some nm) (b₀ :: suite) pos'] [] [] pos) (tryU fn a i su) := by
  obtain ⟨f, fd, F, hm, hkp, hb⟩ := G.p
  let taS : TA := fun σ H Q => ∀ pn xe, Classical.choose (ha pn xe).p σ H Q
  have paS : ∀ pn xe, PA (X.tr pn xe) (e :: es) taS := fun pn xe => ⟨fun pos pins s σ H Q I h => (Classical.choose_spec (ha pn xe).p).1.run pos pins s σ H Q I (h pn xe)⟩
  have saS : SimA X.K EF C taS a := fun G0 H0 G H σ ρ Q I h pn xe => (Classical.choose_spec (ha pn xe).p).2 G0 H0 G H σ ρ Q I h
  let tsS : Addr → Value → Option Addr → TS := fun a cls d D σ H => ∃ c s, ∃ h : su c = some s, ∃ e1 : cls = C c, ∃ e2 : d = none, ∀ oe pn (hz : L2N.Zn (C c) none oe) (hv : ∃ vs, oe.data = .fields vs), Classical.choose (hsu c s h a oe pn hz hv).p D σ H
  have psS : ∀ (a : Addr) (oe : Obj) (cls : Value) (d : Option Addr) (pn : List (Addr × Obj)), L2N.Zn cls d oe → (∃ vs, oe.data = .fields vs) → PSs (X.suite a ((a, oe) :: pn)) (b₀ :: suite) (tsS a cls d) := fun a oe cls d pn hz hv => ⟨fun pins s σ H D I h => by
    obtain ⟨c, s1, h1, rfl, rfl, q⟩ := h
    exact (Classical.choose_spec (hsu c s1 h1 a oe pn hz hv).p).1.run pins s σ H D I (q oe pn hz hv)⟩
  refine ⟨_, L2N.ps_try_as (tb := fun W D σ H => tCallSD (SpF X.K C n fn) [] (fun σ cls d H => W cls d σ H) taS σ H fun _ H1 => D.nx σ H1) (ts := tsS) hs hf hN hi hln hc tk (fun W pn xe tk' _ => ?_) psS, fun G0 H0 G H σ ρ D I h => ?_⟩
  · exact pss_one (ps_expr (pe_callSD (X := X.tr pn xe) (CX := L2N.CX X.prog X.w) F (hr.mono hk) hg hm hkp hb .nil (fun σ pins H s u s' I c => tk' u s' (L2N.XE.of_call I (fun cls d H' h => h) c)) (paS pn xe) hdb he hpl) hsw)
  · show taS σ H fun vs H1 => SpF X.K C n fn (vs ++ []) H1 (fun _ H2 => D.nx σ H2) fun cls d H2 => wAs X.K cv i tsS (fun cls d _ H => E cls d H) D cls d σ H2
    unfold tryU at h
    refine saS G0 H0 G H σ ρ _ I ?_
    cases ea : a ρ with
    | ex c => rw [ea] at h; exact h.elim
    | st => rw [ea] at h; exact h.elim
    | ok rs =>
      rw [ea] at h
      simp only [noX] at h
      intro vs G1 H1 g1 k1
      by_cases c : rs.all R.isIm = true
      · rw [if_pos c] at h
        rw [List.append_nil]
        have I1 := I.grow g1
        refine ⟨G1, rs.map R.dat, I1.s, k1.ims (ims_all c), by rw [List.length_map]; exact hl.l _ _ ea, ?_⟩
        cases ef : fn (rs.map R.dat) with
        | ok r => rw [ef] at h; exact fun v G' H' g hr => h σ G' H' (g1.g.trans g.g) (I1.grow g)
        | st => rw [ef] at h; exact h.elim
        | ex c =>
          rw [ef] at h
          simp only at h
          intro G' H' g
          cases es : su c with
          | none => rw [es] at h; exact h.elim
          | some s =>
            rw [es] at h
            simp only at h
            by_cases hind : ∀ a : Addr, s a (ρ.set i (.vv (.ref a))) = s 0 (ρ.set i (.vv (.ref 0)))
            rotate_left
            · rw [if_neg hind] at h; exact h.elim
            rw [if_pos hind] at h
            refine ⟨true, hcat c s es, fun _ b hb => ⟨c, s, es, rfl, rfl, fun oe pn hz hv => ?_⟩, fun z => nomatch z⟩
            have I2 := I1.grow g
            have I3 : EnvOk X.K G0 H0 G' H' (σ.set i (some (.ref b))) (ρ.set i (.vv (.ref b))) := I2.put fun w hw => ⟨w, rfl, fun j e _ h => hw j e h⟩
            refine (Classical.choose_spec (hsu c s es b oe pn hz hv).p).2 G0 H0 G' H' _ _ _ I3 ?_
            rw [hind b]
            have s2 := g1.g.trans g.g
            cases eo : s 0 (ρ.set i (.vv (.ref 0))) with
            | nx ρ' => rw [eo] at h; exact fun σ4 G4 H4 s4 I4 => h _ G4 H4 (s2.trans s4) (I4.setNo i)
            | rt r => rw [eo] at h; exact fun v G4 H4 g4 hr => h v G4 H4 g4 hr
            | rv r ρ' => rw [eo] at h; exact h.elim
            | ev r ρ' => rw [eo] at h; exact h.elim
            | ex c => rw [eo] at h; exact h.elim
            | bk ρ' => rw [eo] at h; exact h.elim
            | ct ρ' => rw [eo] at h; exact h.elim
            | st => rw [eo] at h; exact h.elim
      · rw [if_neg c] at h; exact h.elim
end
def clsB : Stmt → List Stmt
  | .ClassDef _ _ _ b .. => b
  | _ => []
end Z

/-! ## ZS -/
set_option Elab.async false
set_option linter.all false
set_option maxRecDepth 100000
set_option maxHeartbeats 2000000
namespace Z
open PySem PySem.Spec PyProof.Rows L2 HotX
/-! ### [x for x in xs if x] within an except suite, xs a list of truths -/
/-- the end of a walk over a list while an exception is handled: StopIteration gets that one as its context, and is dropped -/
theorem list_end_hot {prog : Program} {w : World} {A : Around} {E : Value → Shared → Prop} {s : Shared} {it l x1 : Addr} {i : Nat} {items : Array Value} {Q : Option Value → Shared → Prop} (hot : HotAt A x1 s.heap)
    (hit : s.heap.IsListIter it l i) (hl : s.heap.IsList l items) (hx : items[i]? = none) (hne : it ≠ x1)
    (hQ : ∀ h', (∀ b o, b ≠ it → s.heap.get? b = some o → h'.get? b = some o) → Q none { s with heap := h' }) : wpAny (model prog w) A (pyNext (.ref it)) Q E s := by
  obtain ⟨hh, oe, ve, ge, de, ce⟩ := hot
  obtain ⟨io, gi, ci, di⟩ := id hit
  obtain ⟨lo, gl, cl, nl, dl⟩ := hl
  unfold pyNext
  refine wpAny_bind (wpAny_attempt (wpAny_callSpecial?_slot (name := Str.ofString "__next__") hit.typeIs slot_listiter_next (wpAny_call_entry slot_listiter_next hit.typeIs entry_listiter_next ?_ (args_listiter_next _))))
  show wpAny _ _ (field (.ref it) 0 >>= _) _ _ s
  refine wpAny_bind (wpAny_field gi di (x := .ref l) rfl ?_)
  show wpAny _ _ (if (Value.ref l == Value.none) = true then _ else _) _ _ s
  have hb : ¬ ((Value.ref l == Value.none) = true) := Bool.false_ne_true
  rw [if_neg hb]
  show wpAny _ _ (field (.ref it) 1 >>= _) _ _ s
  refine wpAny_bind (wpAny_field gi di (x := .int i 0) rfl ?_)
  show wpAny _ _ (seqItems? (.ref l) >>= _) _ _ s
  refine wpAny_bind (wpAny_seqItems gl dl ?_)
  simp only [Int.toNat_natCast, hx]
  refine wpAny_bind (wpAny_rule (wpAny_bind (wpAny_setField gi di (by simp) ?_)))
  show wpAny _ _ (newExc (.type "StopIteration") [] >>= _) _ _ _
  refine wpAny_bind ?_
  simp only [newExc, newTuple]
  refine wpAny_bind (wpAny_newObj_type ?_ (by size_fits))
  refine wpAny_bind (m := firstArgMember _ _) (wpAny_of_eq (a := Value.none) (by first | rfl | (simp only [firstArgMember]; rfl)) ?_)
  refine wpAny_newObj_type ?_ (by size_fits)
  have g1 := (Heap.get?_update_other s.heap (Obj.mapFields (·.setIfInBounds 0 .none)) hne).trans ge
  refine raiseNew_hot ⟨hh, oe, ve, Heap.get?_push_of_some _ (Heap.get?_push_of_some _ g1), de, ce⟩ (Nat.ne_of_lt (Heap.lt_size (Heap.get?_push_of_some _ g1))) (Heap.get?_push_size _ rfl) rfl (by first | (simp; done) | (simp; omega) | (simp only [Array.size_append]; simp; omega)) ?_
  refine wpAny_bind (wpAny_isInstance (T := "StopIteration") (b := true) ⟨_, Heap.get?_update_self _ (Heap.get?_push_size _ rfl) rfl, rfl⟩ isSubtype_stop ?_)
  refine wpAny_pure (hQ _ fun b o hbi e => ?_)
  have e1 := (Heap.get?_update_other s.heap (Obj.mapFields (·.setIfInBounds 0 .none)) (Ne.symm hbi)).trans e
  rw [Heap.get?_update_other _ _ (Nat.ne_of_gt (Heap.lt_size (Heap.get?_push_of_some _ e1)))]
  exact Heap.get?_push_of_some _ (Heap.get?_push_of_some _ e1)
section
variable {X : Cx} {E : XK} {C : CM}
/-- what the handled exception is, it stays so within a block -/
theorem hot_blk {s0 : Shared} {H0 : Hp} {scope : Scope} {ce : PySem.Env} {fp : List Addr} {pins : List (Addr × Obj)} {σ0 σ : L2.St} {H : Hp} {s : Shared} (hot : L2H.HotC X) (I0 : Inv X pins σ0 H0 s0) (nf : ∀ b ∈ fp, FpOk X pins H0 b) (hs : ∀ x, L2H.Hot1 X.A x → x ∈ X.pn → x.1 ∉ frs X.stack)
    (I : Inv (X.blk s0 H0 scope ce fp) [] σ H s) : ∃ x1, HotAt X.A x1 s.heap ∧ x1 ∉ fp := by
  obtain ⟨p, hp, hm⟩ := hot
  have k := I0.pin p (List.mem_append_left _ hm)
  have nfp : p.1 ∉ fp := fun z => (nf p.1 z).2.2.2.2.2 p (List.mem_append_left _ hm) rfl
  have st := hs p hp hm
  obtain ⟨hh, ve, de, ce⟩ := hp
  exact ⟨p.1, ⟨hh, p.2, ve, I.base.keep p.1 p.2 k.1 k.2.1 st nfp, de, ce⟩, nfp⟩
theorem off_stack {pins : List (Addr × Obj)} {σ : L2.St} {H : Hp} {s : Shared} (I : Inv X pins σ H s) {p : Addr × Obj} (hm : p ∈ X.pn) : p.1 ∉ frs X.stack := fun z => by
  have k := I.pin p (List.mem_append_left _ hm)
  exact (List.mem_cons.mp (I.stkSub p.1 z)).elim k.2.2.1 k.2.2.2.1
def tFil (te : TE) (K : PySem.W.Frag) : TE := fun σ H Q => te σ H fun v H1 => ∃ (a : Addr) (bs : List Bool), v = .ref a ∧ SqL K H1 a (bs.map V.bl) ∧ bs.length ≤ 1000 ∧ ∀ D, H1 D = none → Q (.ref D) (upd H1 D (.lst ((bs.filter id).map V.bl)))
theorem le_line2 {n : Nat} (h : n < 1000) : n < sizeLine := Nat.lt_trans h (by decide)
theorem filter_take (bs : List Bool) (i : Nat) (h : i < bs.length) : (bs.take (i + 1)).filter id = (bs.take i).filter id ++ (if bs[i] = true then [bs[i]] else []) := by
  rw [List.take_succ, List.filter_append, List.getElem?_eq_getElem h]
  cases bs[i] <;> simp
theorem pe_fil {iter : Expr} {te : TE} {x : Str} {p1 p2 p3 pos : Pos} {scope : Scope} {j : Nat} (hot : L2H.HotC X) (hN : X.N.Nodup) (hj : X.N[j]? = some x) (pi : PE X iter te) (ok : BlkOk X.N X.env.scope scope [(x, j)])
    (hg : ∀ (s : Shared) (H : Hp) (Cd : Addr) (cl : List (Str × Addr)) (fp : List Addr), PG (X.blk s H scope (compEnvC scope cl Cd X.env) fp) (.Name x p1) (gName j))
    (ht : ∀ (s : Shared) (H : Hp) (Cd : Addr) (cl : List (Str × Addr)) (fp : List Addr), ∃ tt, PTs (X.blk s H scope (compEnvC scope cl Cd X.env) fp) [.Name x p2] tt ∧ ∀ σ H' b Q, σ[j]? = some (some (.bl b)) → Q b H' → tt σ H' Q)
    (he : ∀ (s : Shared) (H : Hp) (Cd : Addr) (cl : List (Str × Addr)) (fp : List Addr), PE (X.blk s H scope (compEnvC scope cl Cd X.env) fp) (.Name x p3) (tVar j)) (hs : ∀ z, foldedSetIterable iter X.env z = pure z) :
    PE X (.ListComp (.Name x p3) [⟨.Name x p1, iter, [.Name x p2], 0⟩] scope pos) (tFil te X.K) := by
  refine ⟨fun pins s σ H Q I h => ?_⟩
  have cel : ∀ y ∈ scope.names, y.2 = .free → ∃ c, X.env.cells.lookup y.1 = some c := fun y hy e => I.ok.has _ (ok.free y hy e)
  rw [eval_ListComp]
  refine wpAny_comprehension_free rfl hs (closure_ok cel) ok.kind (fun y hy e => (ok.uniq y hy).trans (congrArg some e)) (thn (pi.run pins s σ H _ I h) fun v s1 hv => ?_)
  obtain ⟨v', H1, I1, r1, a, bs, rfl, hq, hlen, hQ⟩ := hv
  cases r1
  obtain ⟨its, rv, isl, hz⟩ := I1.list hq
  refine wpAny_pyIter_list isl.isList ?_
  have nIt : H1 s1.heap.objs.size = none := I1.hok.fresh (Nat.le_refl _)
  have I2 := I1.kept (t' := s1.toks) (h' := s1.heap.push { cls := .type "list_iterator", data := .fields #[.ref a, .int 0 0] }) fun b o e => Heap.get?_push_of_some _ e
  have fI := I1.fpOk (Nat.le_refl _) nIt
  have st2 : (s1.heap.push { cls := .type "list_iterator", data := .fields #[.ref a, .int 0 0] }).IsListIter s1.heap.objs.size a 0 := ⟨_, Heap.get?_push_size _ rfl, rfl, rfl⟩
  have hitS : s1.heap.objs.size < (s1.heap.push { cls := .type "list_iterator", data := .fields #[.ref a, .int 0 0] }).objs.size := by rw [Heap.size_push]; exact Nat.lt_succ_self _
  generalize hit : s1.heap.objs.size = it at nIt I2 fI st2 hitS ⊢
  generalize hs2 : ({ s1 with heap := s1.heap.push { cls := .type "list_iterator", data := .fields #[.ref a, .int 0 0] } } : Shared) = s2 at I2 ⊢
  have st2 : s2.heap.IsListIter it a 0 := by rw [← hs2]; exact st2
  have hitS : it < s2.heap.objs.size := by rw [← hs2]; exact hitS
  refine wpAny_newObj_type (newEnv_comp ?_) (by show 0 ≤ sizeLine; decide)
  generalize hDe : s2.heap.objs.size = D at hitS
  have nD : H1 D = none := I2.hok.fresh (Nat.le_of_eq hDe)
  have hQ := hQ D nD
  have sq : ∀ u, SqL X.K (upd H1 D u) a (bs.map V.bl) := fun u => (same_upd nD).seq hq
  generalize hs3 : ({ s2 with heap := s2.heap.push { cls := .type "list", data := .seq ([] : List Value).toArray } } : Shared) = s3
  have up3 : ∀ b o, s2.heap.get? b = some o → s3.heap.get? b = some o := fun b o e => by rw [← hs3]; exact Heap.get?_push_of_some _ e
  have I3 : Inv X pins σ (upd H1 D (.lst [])) s3 := by
    rw [← hs3]
    refine I2.laid (t' := s2.toks) (fun b o e => Heap.get?_push_of_some _ e) (Nat.le_of_eq hDe) ⟨Nat.zero_le _, [], 0, .nil, ?_⟩
    rw [← hDe]
    exact Heap.get?_push_size _ rfl
  have h3s : D < s3.heap.objs.size := by rw [← hs3, ← hDe]; show _ < (Heap.push _ _).objs.size; rw [Heap.size_push]; exact Nat.lt_succ_self _
  have nIt3 : ∀ u, upd H1 D u it = none := fun u => by rw [upd_ne (Nat.ne_of_lt hitS)]; exact nIt
  have f3 : ∀ b ∈ [it], FpOk X pins (upd H1 D (.lst [])) b ∧ b < s3.heap.objs.size := fun b hb => by
    have eb := List.mem_singleton.mp hb
    subst eb
    exact ⟨⟨nIt3 _, fI.2⟩, Nat.lt_trans hitS h3s⟩
  have st3 : s3.heap.IsListIter it a 0 := st2.at fun o e => up3 _ _ e
  have I4 := block_start I3 ok hN f3
  have hpg := hg s3 (upd H1 D (.lst [])) s3.heap.objs.size (cellsFrom (s3.heap.objs.size + 1) scope.names (cloFrom X.env.cells scope.names [])) [it]
  obtain ⟨tt, hpt, htt⟩ := ht s3 (upd H1 D (.lst [])) s3.heap.objs.size (cellsFrom (s3.heap.objs.size + 1) scope.names (cloFrom X.env.cells scope.names [])) [it]
  have hpe := he s3 (upd H1 D (.lst [])) s3.heap.objs.size (cellsFrom (s3.heap.objs.size + 1) scope.names (cloFrom X.env.cells scope.names [])) [it]
  show codeAny _ _ (.compStart (.ListComp (.Name x p3) [⟨.Name x p1, iter, [.Name x p2], 0⟩] scope pos) 0 (.ref it) (.ref D) (compEnvC scope (cellsFrom (s3.heap.objs.size + 1) scope.names (cloFrom X.env.cells scope.names [])) s3.heap.objs.size X.env)) _ { s3 with heap := pushCells (s3.heap.push { cls := .type "dict", data := .dict #[] }) scope.names }
  generalize hce : compEnvC scope (cellsFrom (s3.heap.objs.size + 1) scope.names (cloFrom X.env.cells scope.names [])) s3.heap.objs.size X.env = ce at I4 hpg hpt hpe ⊢
  have cL : ce.locals = s3.heap.objs.size := by subst hce; rfl
  generalize hs4 : ({ s3 with heap := pushCells (s3.heap.push { cls := .type "dict", data := .dict #[] }) scope.names } : Shared) = s4 at I4 ⊢
  have st4 : s4.heap.IsListIter it a 0 := st3.at fun o e => by rw [← hs4]; exact pushCells_keeps _ _ _ _ (Heap.get?_push_of_some _ e)
  have fpo : ∀ {σ' : L2.St} {H' : Hp} {s' : Shared}, Inv (X.blk s3 (upd H1 D (.lst [])) scope ce [it]) [] σ' H' s' → H' it = none → FpOk (X.blk s3 (upd H1 D (.lst [])) scope ce [it]) [] H' it := fun {σ' H' s'} I' hn =>
    have m : it ∈ [it] := List.mem_singleton.mpr rfl
    ⟨hn, (I'.ok.exf it m).1, I'.ok.exfs it m, .inl m, fun y c e => (I'.ok.exf it m).2 y c e, fun p hp => nomatch (show p ∈ ([] : List (Addr × Obj)) ++ [] from hp)⟩
  have loop : codeAny (model X.prog X.w) X.A (.compLoop (.ListComp (.Name x p3) [⟨.Name x p1, iter, [.Name x p2], 0⟩] scope pos) 0 (.ref it) (.ref D) ce) (compPost (model X.prog X.w) X.A X.xe none (EP X pins σ Q) (.ref D) s3.heap.objs.size) s4 := by
    refine compLoop_any (fun n s' => ∃ i, Inv (X.blk s3 (upd H1 D (.lst [])) scope ce [it]) [] (wipe σ [j]) (upd H1 D (.lst (((bs.take i).filter id).map V.bl))) s' ∧ s'.heap.IsListIter it a i ∧ i ≤ bs.length ∧ n = bs.length - i) ?_ bs.length ⟨0, I4, st4, Nat.zero_le _, rfl⟩
    rintro n s5 ⟨i, I5, st5, hi, rfl⟩
    obtain ⟨its5, rv5, isl5, hz5⟩ := I5.list (sq _)
    have len5 := rv5.length
    rw [List.length_map] at len5
    obtain ⟨f0, f1, f2, f3', f4, f5⟩ := fpo I5 (nIt3 _)
    by_cases hlt : i < bs.length
    · have hgi : (bs.map V.bl)[i]? = some (.bl bs[i]) := by rw [List.getElem?_map, List.getElem?_eq_getElem hlt]; rfl
      obtain ⟨u, hu, ru⟩ := rv5.get hgi
      refine wpAny_pyNext_list_item st5 isl5.isList (x := u) (by simpa using hu) fun h' st' sb => ?_
      have I6 := I5.turned (t' := s5.toks) (h' := h') (fun b o hb e => (sb.2 b hb).trans e) f0 f1 f3' f4 f5
      obtain ⟨o, e, c, d⟩ := id st'
      refine go_of (s := { s5 with heap := h' }) e c d (by decide) ?_
      have I7 := I6.pinned (fp := [it]) (fun b hb => by have eb := List.mem_singleton.mp hb; subst eb; exact fpo I6 (nIt3 _)) (fun b hb => by have eb := List.mem_singleton.mp hb; subst eb; exact ⟨o, e, fun v z => by rw [d] at z; cases z⟩)
      have hjl : j < (wipe σ [j]).length := by
        rw [wipe_length, I.len]
        exact (List.getElem?_eq_some_iff.mp hj).1
      refine thnF (hpg.run _ _ _ _ (.bl bs[i]) u (fun σ8 H8 => σ8 = (wipe σ [j]).set j (some (.bl bs[i])) ∧ H8 = upd H1 D (.lst (((bs.take i).filter id).map V.bl))) I7 ru ⟨rfl, rfl⟩) fun _ s8 ⟨σ8, H8, I8, e8, eH⟩ => ?_
      subst e8 eH
      have hget : ((wipe σ [j]).set j (some (.bl bs[i])))[j]? = some (some (.bl bs[i])) :=
        List.getElem?_set_self hjl
      refine thnF (hpt.run _ s8 _ _ _ I8 (htt _ _ _ (fun b H9 => b = bs[i] ∧ H9 = upd H1 D (.lst (((bs.take i).filter id).map V.bl))) hget ⟨rfl, rfl⟩)) fun b s9 ⟨H9, I9, eb, e9⟩ => ?_
      subst eb e9
      have fin : ∀ {s' : Shared} {H' : Hp}, Inv (X.blk s3 (upd H1 D (.lst [])) scope ce [it]) ([] ++ pinsAt [it] h') ((wipe σ [j]).set j (some (.bl bs[i]))) H' s' → H' = upd H1 D (.lst (((bs.take (i + 1)).filter id).map V.bl)) →
          ∃ m, m < bs.length - i ∧ ∃ i, Inv (X.blk s3 (upd H1 D (.lst [])) scope ce [it]) [] (wipe σ [j]) (upd H1 D (.lst (((bs.take i).filter id).map V.bl))) s' ∧ s'.heap.IsListIter it a i ∧ i ≤ bs.length ∧ m = bs.length - i := fun {s' H'} I' eH' => by
        subst eH'
        have pin' := I'.pin (it, o) (List.mem_append_right _ (List.mem_append_right _ (mem_pinsAt (List.mem_singleton.mpr rfl) e)))
        refine ⟨bs.length - (i + 1), by omega, i + 1, (I'.unpinned (pins := [])).weak (by rw [List.length_set]) (fun q v eq => ?_), st'.at fun o2 e2 => ?_, hlt, rfl⟩
        · by_cases hq : q = j
          · subst hq
            have := (wipe_some eq).2
            exact absurd (List.mem_singleton.mpr rfl) this
          · rw [List.getElem?_set_ne (Ne.symm hq)]
            exact eq
        · rw [e] at e2
          cases e2
          exact pin'.1
      have ft := filter_take bs i hlt
      cases hbi : bs[i] with
      | false =>
        rw [hbi] at ft
        simp only [Bool.false_eq_true, if_false]
        refine fin I9 ?_
        rw [ft]
        simp
      | true =>
        rw [hbi] at ft
        simp only [if_true]
        refine thnF (hpe.run _ s9 _ _ (fun v H' => v = .bl true ∧ H' = upd H1 D (.lst (((bs.take i).filter id).map V.bl))) I9 ⟨_, by rw [List.getElem?_set_self hjl, hbi], rfl, rfl⟩) fun z s10 ⟨yv, H10, I10, r10, ey, eH⟩ => ?_
        subst ey eH
        refine app_ok (X := X.blk s3 (upd H1 D (.lst [])) scope ce [it]) I10 upd_same (le_line2 ?_) r10 fun s11 I11 => fin I11 ?_
        · rw [List.length_map]
          exact Nat.lt_of_le_of_lt (List.length_filter_le _ _) (by rw [List.length_take]; omega)
        · rw [ft, upd_upd]
          simp
    · have hil : i = bs.length := by omega
      obtain ⟨x1, hotA, hx1⟩ := hot_blk hot I3 (fun b hb => (f3 b hb).1) (fun p _ hm => off_stack I3 hm) I5
      refine list_end_hot hotA st5 isl5.isList (by simp; omega) (fun z => hx1 (by rw [← z]; exact List.mem_singleton.mpr rfl)) fun h' eb => ?_
      have I6 := I5.turned (t' := s5.toks) (h' := h') (fun b o hb e => eb b o hb e) f0 f1 f3' f4 f5
      have I7 : Inv X pins σ _ { s5 with heap := h', toks := s5.toks } := I3.call' (ch := [it]) I6.os I6.base I6.hok I6.bare fun b hb => ⟨(f3 b hb).1.2.2.2.1, (f3 b hb).1.2.1, (f3 b hb).1.2.2.2.2.1, (f3 b hb).1.2.2.2.2.2⟩
      have nC : upd H1 D (.lst (((bs.take i).filter id).map V.bl)) s3.heap.objs.size = none := by
        have z := I6.free
        have z : upd H1 D (.lst (((bs.take i).filter id).map V.bl)) ce.locals = none := z
        rw [cL] at z
        exact z
      obtain ⟨m, hn, _⟩ := I6.loc
      have hn : Heap.Ns h' ce.locals m := hn
      rw [cL] at hn
      refine ⟨m, hn, fun h'' sb => ?_⟩
      obtain ⟨g0, g1, g2, g3, g4, g5⟩ := I3.fpOk (Nat.le_refl _) nC
      refine ⟨.ref D, _, I7.turned (t' := s5.toks) (fun b o hb e => (sb.2 b hb).trans e) g0 g1 g3 g4 g5, rfl, ?_⟩
      rw [hil, List.take_length]
      exact hQ
  exact codeAny_compStart_list loop (wpAny_pyIter_listiter st4 loop)
def filD (d : ED) : ED := fun ρ => (d ρ).bind fun r => match kidsS r.fz with
  | some ds => match boolsOf ds with
    | some bs => if bs.length ≤ 1000 then .ok (.fr 0 ((bs.filter id).map PyData.bool)) else .st
    | none => .st
  | none => .st
theorem rpA_bools {K : PySem.W.Frag} {G : Hp} : ∀ bs : List Bool, RpA K G (bs.map V.bl) (bs.map PyData.bool)
  | [] => .nil
  | b :: bs => .cons (.bl b) (rpA_bools bs)
theorem se_fil {iter : Expr} {d : ED} {x : Str} {p1 p2 p3 pos : Pos} {scope : Scope} (j : Nat) (hot : L2H.HotC X) (hN : X.N.Nodup) (hi : SE X E C iter d) (ok : BlkOk X.N X.env.scope scope [(x, j)])
    (hg : ∀ b : Bk, SG (b.x X scope) (.Name x p1) (.nm j)) (ht : ∀ b : Bk, PE (b.x X scope) (.Name x p2) (tVar j)) (he : ∀ b : Bk, PE (b.x X scope) (.Name x p3) (tVar j)) (hj : X.N[j]? = some x := by rfl) (hs : ∀ z, foldedSetIterable iter X.env z = pure z := by intro _; rfl) :
    SE X E C (.ListComp (.Name x p3) [⟨.Name x p1, iter, [.Name x p2], 0⟩] scope pos) (filD d) := by
  obtain ⟨ti, pi, si⟩ := hi
  refine ⟨_, pe_fil hot hN hj pi ok (fun s H Cd cl fp => (hg ⟨s, H, Cd, cl, fp⟩).p) (fun s H Cd cl fp => ⟨_, pts_one (pt_truth (ht ⟨s, H, Cd, cl, fp⟩) (by intro _; rfl)), fun σ H' b Q e q => ?_⟩) (fun s H Cd cl fp => he ⟨s, H, Cd, cl, fp⟩) hs, ?_⟩
  · exact ⟨_, e, b, rfl, q⟩
  · intro G0 H0 G H σ ρ Q I h
    unfold filD at h
    refine si.useF famO I h fun r y G1 H1 e1 g1 I1 k1 h1 => ?_
    split at h1
    · rename_i ds q
      split at h1
      · rename_i bs q2
        split at h1
        · rename_i hl
          obtain ⟨a, vs, rfl, h2, h3⟩ := k1.kidsS I1.s q
          have := boolsOf_eq q2
          subst this
          have := h3.bools
          subst this
          refine ⟨a, bs, rfl, h2, hl, fun D hD => h1 _ G1 _ (Grow.new I1.s hD) (fresh_list (rpA_bools _) hD I1.s)⟩
        · exact h1.elim
      · exact h1.elim
    · exact h1.elim
theorem hot_suite {X : Cx} {a : Addr} {oe : Obj} {pn : List (Addr × Obj)} {cls : Value} {d : Option Addr} (hz : L2N.Zn cls d oe) (hv : ∃ vs, oe.data = .fields vs) : L2H.HotC (X.suite a ((a, oe) :: pn)) := by
  obtain ⟨vs, hd⟩ := hv
  exact ⟨(a, oe), ⟨rfl, vs, hd, hz.2.2 vs hd⟩, List.mem_cons_self⟩
theorem passN {X : Cx} : Passes (L2N.CX X.prog X.w) X E0 := fun pins σ H s e s' I c => by
  obtain ⟨_, _, _, _, _, _, _, _, _, _, _, _, h⟩ := c
  exact h.elim
/-! ### is True, is False of anything -/
def rIsA2 : R2 := fun x y H Q => ∃ b : Bool, y = .bl b ∧ Q (.bl (decide (x = .bl b))) H
theorem op_isBA : OpR X (compareOp .Is) rIsA2 := by
  intro pins s σ H x y v u Q I rx ry h
  obtain ⟨b, rfl, q⟩ := h
  cases (show u = Value.bool b from ry)
  cases x with
  | bl a =>
    cases (show v = Value.bool a from rx)
    by_cases e : a = b
    · subst e
      exact wpAny_is_self rfl ⟨.bl true, H, I, rfl, by simpa using q⟩
    · exact wpAny_is_other rfl (fun z => e (Value.bool.inj z)) ⟨.bl false, H, I, rfl, by simpa [e] using q⟩
  | non => cases rx; exact wpAny_is_other rfl (fun z => nomatch z) ⟨.bl false, H, I, rfl, by simpa using q⟩
  | int i => obtain ⟨t, rfl⟩ := rx; exact wpAny_is_other rfl (fun z => nomatch z) ⟨.bl false, H, I, rfl, by simpa using q⟩
  | str i => obtain ⟨t, rfl⟩ := rx; exact wpAny_is_other rfl (fun z => nomatch z) ⟨.bl false, H, I, rfl, by simpa using q⟩
  | byt i => obtain ⟨t, rfl⟩ := rx; exact wpAny_is_other rfl (fun z => nomatch z) ⟨.bl false, H, I, rfl, by simpa using q⟩
  | flt i => obtain ⟨t, rfl⟩ := rx; exact wpAny_is_other rfl (fun z => nomatch z) ⟨.bl false, H, I, rfl, by simpa using q⟩
  | ref i => cases rx; exact wpAny_is_other rfl (fun z => nomatch z) ⟨.bl false, H, I, rfl, by simpa using q⟩
  | ty i => cases rx; exact wpAny_is_other rfl (fun z => nomatch z) ⟨.bl false, H, I, rfl, by simpa using q⟩
def isBA : PD → PD → Option PD := fun d e => match e with
  | .bool b => some (.bool (match d with
    | .bool a => decide (a = b)
    | _ => false))
  | _ => none
theorem lk_isBA {K : PySem.W.Frag} : Lk2 K rIsA2 isBA := by
  intro H x y d e z Q hx hy hf
  unfold isBA at hf
  split at hf
  · cases hf
    cases hy
    refine ⟨_, rfl, fun q => ⟨_, rfl, ?_⟩⟩
    cases hx <;> simpa using q
  · cases hf
/-! ### y = x.pop() -/
def asgPop0D (s i : Nat) : SD := fun ρ => match ρ[i]? with
  | some (.ow 0 t) => match (Ty.l0 t)[(Ty.l0 t).length - 1]? with
    | some d => .nx ((ρ.set i (.ow 0 ((Ty.l0 t).dropLast))).set s (.im d))
    | none => .st
  | _ => .st
theorem ss_asgPop0 {x y : Str} {yp xp apos cpos pos : Pos} (s i : Nat) (hN : X.N.Nodup) (hy : Loc X.env.scope y) (hs1 : X.N[s]? = some y := by rfl) (hf : X.fn y = true ∨ X.env.scope.names.lookup y = some .local := by first | exact .inl rfl | exact .inr rfl | assumption)
    (hNi : X.N[i]? = some x := by rfl) (hv : Vis X.env.scope x := by first | exact Or.inl rfl | exact Or.inr (Or.inl rfl) | exact Or.inr (Or.inr rfl)) (hd : (x == ("__debug__" : Str)) = false := by decide) (hcd : (x == ("__classdict__" : Str)) = false := by decide)
    (hp : ∀ to, PE X (.Name x xp) to → PE X (.Call (.Attribute (.Name x xp) "pop" apos) [] [] cpos) (tBM0 X.K "list" rPop to)) (hs : swapsWith (.Call (.Attribute (.Name x xp) "pop" apos) [] [] cpos) (some (.Name y yp)) pos.line X.env = pure false := by rfl) :
    SS X E C (.Assign [.Name y yp] (.Call (.Attribute (.Name x xp) "pop" apos) [] [] cpos) pos) (asgPop0D s i) := by
  refine ⟨_, ps_set hN hs1 hy (hp _ (pe_var hNi hv hd hcd)) hs hf, fun G0 H0 G H σ ρ D I h => ?_⟩
  unfold asgPop0D at h
  split at h
  · rename_i t e
    split at h
    · rename_i d ed
      obtain ⟨a, xs, w, c1, c2, c3, c4, c5, c6⟩ := pop_step (t := Ty.l0 t) I e ed
      have er : ∀ l : List V, l.eraseIdx (l.length - 1) = l.dropLast := fun l => List.eraseIdx_length_sub_one
      have er2 : ∀ l : List PD, l.eraseIdx (l.length - 1) = l.dropLast := fun l => List.eraseIdx_length_sub_one
      rw [er2] at c6
      rw [← c3, er] at c6
      rw [← c3] at c4
      refine ⟨_, getD_some c1, .inl ⟨rfl, _, SqL.of c2⟩, a, xs, w, rfl, rfl, c2, c4, ?_⟩
      exact h _ G _ (Same.refl _) (c6.setIm s c5)
    · exact h.elim
  · exact h.elim
end
end Z

/-! ## ZT -/
set_option Elab.async false
set_option linter.all false
set_option maxRecDepth 100000
set_option maxHeartbeats 2000000
namespace L2
open PySem PySem.Spec PyProof.Rows PySem.W
/-! ### sorted of a list of lists of ints -/
abbrev rowP (b : List Int) : PyData := .list (b.map PyData.int)
def sortR (bs : List (List Int)) : List (List Int) := bs.mergeSort fun p q => decide (p ≤ q)
def rSortedLL (K : PySem.W.Frag) : List V → Hp → VK → Prop := fun vs H Q => ∃ (a : Addr) (xs : List V) (bs : List (List Int)) (P : V → List Int → Prop), vs = [V.ref a] ∧ SqL K H a xs ∧ EachIs (fun x b => P x b ∧ Dp K H x (rowP b)) xs bs ∧
  ∀ (ys : List V) (p : Addr), EachIs P ys (sortR bs) → H p = none → Q (.ref p) (upd H p (.lst ys))
section
variable {X : Cx}
theorem each_vals {P : V → List Int → Prop} : ∀ {us : List Value} {bs : List (List Int)}, EachIs (fun u b => ∃ x, RelV x u ∧ P x b) us bs → ∃ ys, Vals ys us ∧ EachIs P ys bs
  | _, _, .nil => ⟨[], .nil, .nil⟩
  | _, _, .cons ⟨x, h1, h2⟩ t => by
    obtain ⟨ys, k1, k2⟩ := each_vals t
    exact ⟨x :: ys, .cons h1 k1, .cons h2 k2⟩
theorem vals_each {P S : V → List Int → Prop} {T : Value → List Int → Prop} (f : ∀ x u b, RelV x u → S x b → T u b) : ∀ {xs : List V} {us : List Value} {bs : List (List Int)}, Vals xs us → EachIs S xs bs → EachIs T us bs
  | _, _, _, .nil, .nil => .nil
  | _, _, _, .cons h1 t1, .cons h2 t2 => .cons (f _ _ _ h1 h2) (vals_each f t1 t2 (P := P))
theorem cr_sortedLL (hu : X.A.units + 64 < cLine) : CallR X (.builtin "sorted") (rSortedLL X.K) := by
  intro pins s σ H vs us Q I r h
  obtain ⟨a, xs, bs, P, rfl, hs, hp, q⟩ := h
  obtain ⟨its, rv, hl, hz⟩ := I.list hs
  rw [Vals.ref1 r]
  have e : EachIs (fun u b => ∃ x, RelV x u ∧ P x b) its bs := vals_each (P := P) (fun x u b h1 h2 => ⟨x, h1, h2.1⟩) rv hp
  have er : EachIs (fun u b => ∃ as, Reads s.heap u (rowP b) as) its bs := vals_each (P := P) (fun x u b h1 h2 => Dp.reads I _ x u h2.2 h1) rv hp
  have hlb : bs.length = xs.length := hp.length.symm
  refine sorted_data (enc := rowP) (R := fun u b => ∃ x, RelV x u ∧ P x b) hl.isList e er (AllAlike.of fun b b' => by show alikeAll _ _ = true; exact alike_ints b b') (Sortable.others fun b => ⟨fun h => (nomatch h), fun _ h => (nomatch h)⟩) (by rw [hlb]; exact hz) (fun b _ => ?_) fun out h1 h2 => ?_
  · have : (rowP b).depth = 1 := by simp [PyData.depth, rowP, depth_ints]
    rw [this]
    omega
  · have h3 : dataLe false rowP = fun p q => decide (p ≤ q) := dataLe_rows (fun b : List Int => b)
    rw [h3] at h2
    obtain ⟨ys, k1, k2⟩ := each_vals h2
    obtain ⟨ep, he'⟩ := PyProof.Rows.sortedAll_at s.heap its out.toArray
    have hlen : ys.length ≤ sizeLine := by
      rw [k1.length, h1, hlb]
      exact hz
    exact ⟨.ref _, upd H (s.heap.objs.size + 1) (.lst ys), I.laid (t' := s.toks) (fun _ _ => PyProof.Rows.sortedAll_old) (Nat.le_succ _) ⟨hlen, out, ep, k1, he'⟩, rfl, q ys _ k2 (I.hok.fresh (Nat.le_succ _))⟩
end
end L2
namespace Z
open PySem PySem.Spec PyProof.Rows L2
section
variable {X : Cx} {E : XK} {C : CM}
theorem noD_row (b : List Int) : noD (rowP b) = true := by
  show noDs (b.map PyData.int) = true
  induction b with
  | nil => rfl
  | cons x b ih => simpa [noDs, noD] using ih
def rowsOf : List PD → Option (List (List Int))
  | [] => some []
  | .list ds :: r => match intsOf ds, rowsOf r with
    | some a, some b => some (a :: b)
    | _, _ => none
  | _ => none
theorem rowsOf_eq : ∀ {ds : List PD} {bs : List (List Int)}, rowsOf ds = some bs → ds = bs.map rowP
  | [], _, e => by cases e; rfl
  | d :: r, bs, e => by
    cases d <;> first | (simp [rowsOf] at e; done) | skip
    rename_i ds
    unfold rowsOf at e
    split at e
    · rename_i a b e1 e2
      cases e
      rw [intsOf_eq e1, rowsOf_eq e2]
      rfl
    · cases e
theorem rows_each {K : PySem.W.Frag} {G : Hp} : ∀ {bs : List (List Int)} {vs : List V}, RpA K G vs (bs.map rowP) → PySem.W.EachIs (fun x b => Rp K G x (rowP b) ∧ Dp K G x (rowP b)) vs bs
  | [], _, h => by cases h; exact .nil
  | b :: bs, _, h => by
    cases h with
    | cons h1 h2 => exact .cons ⟨h1, Rp.dp _ _ (noD_row b) h1⟩ (rows_each h2)
theorem each_rows {K : PySem.W.Frag} {G : Hp} : ∀ {bs : List (List Int)} {vs : List V}, PySem.W.EachIs (fun x b => Rp K G x (rowP b)) vs bs → RpA K G vs (bs.map rowP)
  | [], _, h => by cases h; exact .nil
  | b :: bs, _, h => by
    cases h with
    | cons h1 h2 => exact .cons h1 (each_rows h2)
@[simp] def sortLD (a : AD) : ED := fun ρ => (a ρ).bind fun rs => match rs with
  | [.im (.list ds)] => match rowsOf ds with
    | some bs => .ok (.fr 0 (@List.map _ PD rowP (sortR bs)))
    | none => .st
  | _ => .st
theorem se_sortedL {e : Expr} {es : List Expr} {a : AD} {p pos : Pos} (hu : X.A.units + 64 < cLine) (hg : Gl X "sorted") (hm : X.mg "sorted" = none) (ha : SA X E C (e :: es) a)
    (he : starEach (e :: es) X.env = (false, eval e X.env) :: starEach es X.env := by rfl) (hpl : (backTo pos (starEach es X.env)).any (·.1) = false := by rfl) :
    SE X E C (.Call (.Name "sorted" p) (e :: es) [] pos) (sortLD a) := by
  obtain ⟨ta, pa, sa⟩ := ha
  refine ⟨_, pe_callB (cr_sortedLL hu) hg hm (by decide +kernel) pa (he := he) (hpl := hpl), ?_⟩
  intro G0 H0 G H σ ρ Q I h
  refine sa.use famO I h fun rs vs G1 H1 e1 g1 I1 k1 h1 => ?_
  split at h1
  · rename_i ds
    split at h1
    · rename_i bs q2
      cases k1 with
      | cons r1 t1 =>
        cases t1
        have r1 : Rp _ G1 _ (.list ds) := r1
        rw [rowsOf_eq q2] at r1
        cases r1 with
        | lst h3 h4 =>
          refine ⟨_, _, bs, fun x b => Rp X.K G1 x (rowP b), rfl, SqL.of (I1.s _ _ h3), ?_, fun ys p hy hl => ?_⟩
          · exact (rows_each h4).mono fun x b h => ⟨h.1, Rp.dp _ _ (noD_row b) (h.1.up I1.s)⟩
          · exact h1 _ G1 _ (Grow.new I1.s hl) (fresh_list (each_rows hy) hl I1.s)
    · exact h1.elim
  · exact h1.elim

/-! ### a part of a tuple (not the whole of it) -/
def slTD (a : ED) (l u : OD) : ED := fun ρ => (a ρ).bind fun r => (l ρ).bind fun lo => (u ρ).bind fun hi => match r.fz with
  | .im (.tuple ds) => if HT.sIx ds.length 0 lo = 0 ∧ HT.sIx ds.length ds.length hi = ds.length then .st else .ok (.im (.tuple (cutL ds lo hi)))
  | _ => .st
theorem se_slT {e : Expr} {lo hi : Option Expr} {a : ED} {l u : OD} {p2 pos : Pos} (ha : SE X E C e a) (hl : SOp X E C lo l) (hu : SOp X E C hi u) : SE X E C (.Subscript e (.Slice lo hi none p2) pos) (slTD a l u) := by
  obtain ⟨ta, pa, sa⟩ := ha
  obtain ⟨tl, pl, sl⟩ := hl
  obtain ⟨tu, pu, su⟩ := hu
  refine ⟨_, pe_slice sl_tup pa pl pu, ?_⟩
  intro G0 H0 G H σ ρ Q I h
  refine sa.useF famO I h fun r1 x G1 H1 e1 g1 I1 k1 h1 => ?_
  refine sl G0 H0 G1 H1 σ ρ _ I1 ?_
  cases el : l ρ with
  | st => rw [el] at h1; exact h1
  | ex c => rw [el] at h1; exact h1
  | ok o1 =>
    rw [el] at h1
    intro G2 H2 g2
    have h2 := OOk.up (show OOk X.K E C G1 H1 Q ((u ρ).bind fun hi => match r1.fz with
      | .im (.tuple ds) => if HT.sIx ds.length 0 o1 = 0 ∧ HT.sIx ds.length ds.length hi = ds.length then .st else .ok (.im (.tuple (cutL ds o1 hi)))
      | _ => .st) from h1) g2
    have I2 := I1.grow g2
    refine su G0 H0 G2 H2 σ ρ _ I2 ?_
    cases eu : u ρ with
    | st => rw [eu] at h2; exact h2
    | ex c => rw [eu] at h2; exact h2
    | ok o2 =>
      rw [eu] at h2
      intro G3 H3 g3
      have I3 := I2.grow g3
      have h3 := OOk.up (show OOk X.K E C G2 H2 Q (match r1.fz with
        | .im (.tuple ds) => if HT.sIx ds.length 0 o1 = 0 ∧ HT.sIx ds.length ds.length o2 = ds.length then .st else .ok (.im (.tuple (cutL ds o1 o2)))
        | _ => .st) from h2) g3
      have k := k1.grow (g2.trans g3)
      split at h3
      · rename_i ds q
        rw [q] at k
        have k : Rp _ G3 x (.tuple ds) := k
        split at h3
        · exact h3.elim
        · rename_i c
          cases k with
          | tup t1 t2 =>
            have hln := t2.length
            refine ⟨_, _, rfl, SqT.of (I3.s _ _ t1), by rw [hln]; exact c, fun p hp => ?_⟩
            exact h3 _ _ _ (Grow.newK I3.s hp) (.tup upd_same ((t2.cut o1 o2).up (same_upd (I3.s.free hp))))
      · exact h3.elim

/-! ### an owned list read as if it were known for ever, while a truth is found -/
def tmpT (i : Nat) (e : TD) : TD := fun ρ => match ρ[i]? with
  | some (.ow n t) => match e (ρ.set i (.im (Ty.dat (n + 1) t))) with
    | .ok b => .ok b
    | _ => .st
  | _ => .st
theorem st_tmp {x : Expr} {e : TD} (i : Nat) (he : ST X E C x e) : ST X E C x (tmpT i e) := by
  obtain ⟨te, pe, se⟩ := he
  refine ⟨te, pe, fun G0 H0 G H σ ρ Q I h => ?_⟩
  unfold tmpT at h
  split at h
  · rename_i n t q
    split at h
    · rename_i b eb
      obtain ⟨G', s', I'⟩ := I.freeze q
      refine se G0 H0 G' H σ _ Q I' ?_
      rw [eb]
      intro G1 H1 g
      exact h G H1 ⟨Same.refl _, g.h, fun a o ha => g.h _ _ (I.s _ _ ha), fun _ _ _ _ h => h⟩
    · exact h.elim
  · exact h.elim
end
end Z

/-! ## ZU -/
set_option Elab.async false
set_option linter.all false
set_option maxRecDepth 100000
set_option maxHeartbeats 2000000
namespace Z
open PySem PySem.Spec PyProof.Rows L2
/-! ### instances of an own class whose attributes hold things known for ever -/
def setP (f : Str) (d : PD) : List (Str × PD) → List (Str × PD)
  | [] => [(f, d)]
  | (g, x) :: r => if g = f then (g, d) :: r else (g, x) :: setP f d r
theorem FldOk.look {K : PySem.W.Frag} {G : Hp} {f : Str} : ∀ {fs : List (Str × PD)} {vs : List (Str × V)}, FldOk K G fs vs → ∀ {d : PD}, fs.lookup f = some d → ∃ v, vs.lookup f = some v ∧ Rp K G v d
  | _, _, .nil, _, e => nomatch e
  | (g, d) :: fs, (_, v) :: vs, .cons r h, _, e => by
    unfold List.lookup at e ⊢
    cases q : f == g with
    | true => rw [q] at e; cases e; exact ⟨v, rfl, r⟩
    | false => rw [q] at e; exact FldOk.look h e
theorem FldOk.none {K : PySem.W.Frag} {G : Hp} {f : Str} : ∀ {fs : List (Str × PD)} {vs : List (Str × V)}, FldOk K G fs vs → fs.lookup f = none → vs.lookup f = none
  | _, _, .nil, _ => rfl
  | (g, d) :: fs, (_, v) :: vs, .cons r h, e => by
    unfold List.lookup at e ⊢
    cases q : f == g with
    | true => rw [q] at e; cases e
    | false => rw [q] at e; exact FldOk.none h e
theorem FldOk.len {K : PySem.W.Frag} {G : Hp} : ∀ {fs : List (Str × PD)} {vs : List (Str × V)}, FldOk K G fs vs → vs.length = fs.length
  | _, _, .nil => rfl
  | _, _, .cons _ h => by rw [List.length_cons, List.length_cons, FldOk.len h]
theorem FldOk.put {K : PySem.W.Frag} {G : Hp} {f : Str} {d : PD} {v : V} (r : Rp K G v d) : ∀ {fs : List (Str × PD)} {vs : List (Str × V)}, FldOk K G fs vs → FldOk K G (setP f d fs) (putF f v vs)
  | _, _, .nil => .cons r .nil
  | (g, x) :: fs, (_, u) :: vs, .cons r1 h => by
    unfold setP putF
    by_cases q : g = f
    · rw [if_pos q, if_pos q]; exact .cons r h
    · rw [if_neg q, if_neg q]; exact .cons r1 (FldOk.put r h)
structure ObjK (K : PySem.W.Frag) (Cl : Addr) (fl : List Str) : Prop where
  c : Cls K Cl
  na : ∀ f ∈ fl, NoAttr K Cl f
section
variable {K : PySem.W.Frag} {G0 H0 G H G' H' : Hp} {σ : L2.St} {ρ : Env} {F : List Addr}
theorem EnvOk.dropOb (I : EnvOk K G0 H0 G H σ ρ) {j : Nat} {p Cl : Addr} {fs : List (Str × PD)} (hj : ρ[j]? = some (.ob p Cl fs)) : σ.getD j none = some (.ref p) ∧ EnvR K G0 H0 G H σ (ρ.set j .no) [p] ∧ ∃ dx vs, H p = some (.ins Cl dx vs) ∧ FldOk K G fs vs := by
  obtain ⟨len, b, w, hw⟩ := I
  obtain ⟨x1, x2, x3, dx, vs, x4, x5⟩ := hw j _ hj
  refine ⟨x1, ⟨by simp [len], b, fun a => if a = p then none else w a, fun i e he => ?_, fun a ha => ?_⟩, dx, vs, x4, x5⟩
  · by_cases c : j = i
    · subst c
      have hl : j < ρ.length := (List.getElem?_eq_some_iff.mp hj).1
      rw [List.getElem?_set_self hl] at he
      cases he
      trivial
    · rw [List.getElem?_set_ne c] at he
      refine (hw i e he).relabel fun a ha => ?_
      show (if a = p then none else w a) = some i
      rw [if_neg]
      · exact ha
      · intro q
        subst q
        rw [x2] at ha
        exact c (Option.some.inj ha)
  · rw [List.mem_singleton] at ha
    subst ha
    exact ⟨if_pos rfl, x3⟩
theorem EnvR.setOb {p Cl dx : Addr} {j : Nat} {fs : List (Str × PD)} {vs : List (Str × V)} (I : EnvR K G0 H0 G H σ ρ (p :: F)) (hp : p ∉ F) (e1 : σ.getD j none = some (.ref p)) (e2 : H p = some (.ins Cl dx vs)) (e3 : FldOk K G fs vs) : EnvR K G0 H0 G H σ (ρ.set j (.ob p Cl fs)) F := by
  obtain ⟨len, b, w, hw, hF⟩ := I
  obtain ⟨n1, n2, n3⟩ := hF p List.mem_cons_self
  refine ⟨by simp [len], b, fun a => if a = p then some j else w a, fun i e he => ?_, fun a ha => ?_⟩
  · by_cases c : j = i
    · subst c
      by_cases hl : j < ρ.length
      · rw [List.getElem?_set_self hl] at he
        cases he
        exact ⟨e1, if_pos rfl, ⟨n2, n3⟩, dx, vs, e2, e3⟩
      · rw [List.getElem?_eq_none (by simp; omega)] at he
        cases he
    · rw [List.getElem?_set_ne c] at he
      refine (hw i e he).relabel fun a ha => ?_
      show (if a = p then some j else w a) = some i
      rw [if_neg]
      · exact ha
      · intro q
        subst q
        rw [n1] at ha
        cases ha
  · refine ⟨?_, (hF a (List.mem_cons_of_mem _ ha)).2⟩
    show (if a = p then some j else w a) = none
    rw [if_neg (fun q : a = p => hp (by rw [← q]; exact ha))]
    exact (hF a (List.mem_cons_of_mem _ ha)).1
/-- what nobody owns is written -/
theorem EnvR.write {p : Addr} {o : HO} (I : EnvR K G0 H0 G H σ ρ (p :: F)) : EnvR K G0 H0 G (upd H p o) σ ρ (p :: F) := by
  obtain ⟨len, b, w, hw, hF⟩ := I
  obtain ⟨n1, n2, n3⟩ := hF p List.mem_cons_self
  refine ⟨len, ⟨b.g, fun c u e => ?_, fun c u e => ?_, b.m⟩, w, fun j e he => ?_, hF⟩
  · rw [upd_ne (ne_of_none e n3)]
    exact b.h _ _ e
  · rw [upd_ne (ne_of_none e n2)]
    exact b.s _ _ e
  · have h := hw j e he
    cases e with
    | no => trivial
    | im d => exact h
    | vv v => exact h
    | ob a C fs =>
      obtain ⟨z1, z2, z3, dx, vs, z4, z5⟩ := h
      refine ⟨z1, z2, z3, dx, vs, ?_, z5⟩
      rw [upd_ne]
      · exact z4
      · intro q
        subst q
        rw [n1] at z2
        cases z2
    | ow m u =>
      obtain ⟨y, y1, y2, y3, y4, y5⟩ := h
      refine ⟨y, y1, y2, ATy.ok_keep (Same.refl _) _ _ (fun d hd => ?_) y3, y4, y5⟩
      rw [upd_ne]
      intro q
      subst q
      have := (y5 d hd).1
      rw [n1] at this
      cases this
end
section
variable {X : Cx} {E : XK} {C : CM}
/-- self.f -/
def fldD (Cl : Addr) (i : Nat) (f : Str) : ED := fun ρ => match ρ[i]? with
  | some (.ob _ D fs) => if D = Cl then match fs.lookup f with
    | some d => .ok (.im d)
    | none => .st
    else .st
  | _ => .st
theorem se_fld {Cl : Addr} {fl : List Str} (i : Nat) {y f : Str} {yp pos : Pos} (O : ObjK X.K Cl fl) (hf : f ∈ fl) (hN : X.N[i]? = some y := by rfl) (hv : Vis X.env.scope y := by first | exact Or.inl rfl | exact Or.inr (Or.inl rfl) | exact Or.inr (Or.inr rfl)) (hd : (y == ("__debug__" : Str)) = false := by decide) (hcd : (y == ("__classdict__" : Str)) = false := by decide)
    (hb : attributeBase (.Name y yp) f X.env (eval (.Name y yp) X.env) = eval (.Name y yp) X.env := by rfl) : SE X E C (.Attribute (.Name y yp) f pos) (fldD Cl i f) := by
  refine ⟨_, pe_fld (pe_var hN hv hd hcd) hb, fun G0 H0 G H σ ρ Q I h => ?_⟩
  unfold fldD at h
  split at h
  · rename_i p D fs e
    by_cases c : D = Cl
    · subst c
      rw [if_pos rfl] at h
      split at h
      · rename_i d ed
        obtain ⟨e1, _, dx, vs, e2, e3⟩ := I.dropOb e
        obtain ⟨v, e4, e5⟩ := e3.look ed
        exact ⟨_, getD_some e1, p, D, dx, vs, v, rfl, e2, O.c, O.na f hf, e4, h v G H (Grow.refl I.s) e5⟩
      · exact h.elim
    · rw [if_neg c] at h; exact h.elim
  · exact h.elim
/-- self.f = e -/
def setFD (Cl : Addr) (i : Nat) (f : Str) (e : ED) : SD := fun ρ => match e ρ with
  | .ok r => match r.fz, ρ[i]? with
    | .im d, some (.ob p D fs) => if D = Cl ∧ fs.length < 1000 then .nx (ρ.set i (.ob p D (setP f d fs))) else .st
    | _, _ => .st
  | .ex c => .ex c
  | .st => .st
theorem ss_setF {Cl : Addr} {fl : List Str} (i : Nat) {y f : Str} {value : Expr} {e : ED} {yp pos' pos : Pos} (O : ObjK X.K Cl fl) (hf : f ∈ fl) (he : SE X E C value e) (hN : X.N[i]? = some y := by rfl) (hv : Vis X.env.scope y := by first | exact Or.inl rfl | exact Or.inr (Or.inl rfl) | exact Or.inr (Or.inr rfl)) (hd : (y == ("__debug__" : Str)) = false := by decide) (hcd : (y == ("__classdict__" : Str)) = false := by decide)
    (hs : swapsWith value (some (.Attribute (.Name y yp) f pos')) pos.line X.env = pure false := by rfl) : SS X E C (.Assign [.Attribute (.Name y yp) f pos'] value pos) (setFD Cl i f e) := by
  obtain ⟨te, pe, se⟩ := he
  refine ⟨_, ps_fld (pe_var hN hv hd hcd) pe hs, fun G0 H0 G H σ ρ D I h => ?_⟩
  refine se G0 H0 G H σ ρ _ I ?_
  unfold setFD at h
  cases ee : e ρ with
  | ex c => rw [ee] at h; exact fun G' H' g => h G' H' (I.b.trans g)
  | st => rw [ee] at h; exact h
  | ok r =>
    rw [ee] at h
    simp only at h
    intro v G1 H1 g hr
    have I1 := I.grow g
    split at h
    · rename_i d p Dd fs ez eo
      by_cases c : Dd = Cl ∧ fs.length < 1000
      · rw [if_pos c] at h
        obtain ⟨c1, c2⟩ := c
        subst c1
        have key : ∃ G2, Same G1 G2 ∧ EnvOk X.K G0 H0 G2 H1 σ ρ ∧ Rp X.K G2 v d := by
          cases r with
          | im d' =>
            have : d' = d := R.im.inj ez
            subst this
            exact ⟨G1, Same.refl _, I1, hr⟩
          | ro n t => cases ez
          | fr n t =>
            have ed : Ty.dat (n + 1) t = d := R.im.inj ez
            subst ed
            obtain ⟨z, z1, z2, z3, z4, z5⟩ := id hr
            have J := I.fresh g (F := ATy.adr (n + 1) z) fun a ha => z5 a ha
            exact J.fz (n := n) (t := t) ⟨z, z1, z2, z3, z4, fun a ha => ha⟩
        obtain ⟨G2, s2, I2, r2⟩ := key
        obtain ⟨e1, J, dx, vs, e2, e3⟩ := I2.dropOb eo
        refine ⟨_, getD_some e1, p, Dd, dx, vs, rfl, e2, O.c, O.na f hf, by rw [e3.len]; exact c2, ?_⟩
        have J2 : EnvR X.K G0 H0 G2 (upd H1 p (.ins Dd dx (putF f v vs))) σ (ρ.set i .no) [p] := J.write
        have J3 := J2.setOb (F := []) (Cl := Dd) (fs := setP f d fs) (by simp) e1 upd_same (e3.put r2)
        rw [List.set_set] at J3
        exact h σ G2 _ (g.g.trans s2) J3.ok
      · rw [if_neg c] at h; exact h.elim
    · exact h.elim
end

/-! ### a def or a method whose first argument is an instance -/
inductive OB where
  | ok (r : R) (fs : List (Str × PD))
  | ex (c : String) (fs : List (Str × PD))
  | st
def BOk (K : PySem.W.Frag) (E : XK) (C : CM) (Cl p : Addr) (G H0 : Hp) (Q : VK) : OB → Prop
  | .ok r fs => ∀ v G' H', Grow G H0 G' H' → G' p = none → (∃ dx ws, H' p = some (.ins Cl dx ws) ∧ FldOk K G' fs ws) → ROk K H0 G' H' r v → Q v H'
  | .ex c fs => ∀ G' H', Grow G H0 G' H' → G' p = none → (∃ dx ws, H' p = some (.ins Cl dx ws) ∧ FldOk K G' fs ws) → E (C c) none H'
  | .st => False
def SpO (K : PySem.W.Frag) (C : CM) (Cl : Addr) (n : Nat) (f : Addr → List (Str × PD) → List PD → OB) : Sp := fun vs H Q E => ∃ (G : Hp) (p dx : Addr) (ws : List (Str × V)) (fs : List (Str × PD)) (us : List V) (ds : List PD),
  vs = .ref p :: us ∧ Same G H ∧ H p = some (.ins Cl dx ws) ∧ G p = none ∧ FldOk K G fs ws ∧ RpA K G us ds ∧ ds.length = n ∧ BOk K E C Cl p G (less H [p]) Q (f p fs ds)
def isOb (p Cl : Addr) : Option Ent → Option (List (Str × PD))
  | some (.ob q D fs) => if q = p ∧ D = Cl then some fs else none
  | _ => none
theorem isOb_eq {p Cl : Addr} {e : Option Ent} {fs : List (Str × PD)} (h : isOb p Cl e = some fs) : e = some (.ob p Cl fs) := by
  unfold isOb at h
  split at h
  · split at h
    · rename_i c
      cases h
      rw [c.1, c.2]
    · cases h
  · cases h
def outO (p Cl : Addr) : SO → OB
  | .nx ρ => match isOb p Cl (List.head? ρ) with
    | some fs => .ok (.im .none) fs
    | none => .st
  | .rv r ρ => match isOb p Cl (List.head? ρ) with
    | some fs => .ok r fs
    | none => .st
  | .ev c ρ => match isOb p Cl (List.head? ρ) with
    | some fs => .ex c fs
    | none => .st
  | _ => .st
def denO (Cl : Addr) (N k : Nat) (d : SD) : Addr → List (Str × PD) → List PD → OB := fun p fs ds => outO p Cl (d (.ob p Cl fs :: ds.map Ent.im ++ List.replicate (N - (k + 1)) Ent.no))
theorem EnvOk.ob0 {K : PySem.W.Frag} {G0 H0 G H : Hp} {σ : L2.St} {ρ : Env} {i : Nat} {p Cl : Addr} {fs : List (Str × PD)} (I : EnvOk K G0 H0 G H σ ρ) (h : ρ[i]? = some (.ob p Cl fs)) : G p = none ∧ ∃ dx ws, H p = some (.ins Cl dx ws) ∧ FldOk K G fs ws := by
  obtain ⟨len, b, w, hw⟩ := I
  obtain ⟨x1, x2, x3, dx, vs, x4, x5⟩ := hw i _ h
  exact ⟨x3.1, dx, vs, x4, x5⟩
theorem BOk.out {K : PySem.W.Frag} {E : XK} {C : CM} {G0 H0 G : Hp} {Cl p : Addr} {Q : VK} {o : SO} (h : BOk K E C Cl p G0 H0 Q (outO p Cl o)) : SOk K E C G0 H0 G { nx := fun _ H' => Q .non H', rt := Q } o := by
  cases o with
  | nx ρ =>
    intro σ G' H' _ I
    unfold outO at h
    simp only at h
    split at h
    · rename_i fs e
      have e := isOb_eq e
      rw [List.head?_eq_getElem?] at e
      obtain ⟨g1, g2⟩ := I.ob0 e
      exact h .non G' H' I.b g1 g2 .non
    · exact h.elim
  | rv r ρ =>
    intro v σ G' H' _ I hr
    unfold outO at h
    simp only at h
    split at h
    · rename_i fs e
      have e := isOb_eq e
      rw [List.head?_eq_getElem?] at e
      obtain ⟨g1, g2⟩ := I.ob0 e
      exact h v G' H' I.b g1 g2 hr
    · exact h.elim
  | ev c0 ρ =>
    intro σ G' H' _ I
    unfold outO at h
    simp only at h
    split at h
    · rename_i fs e
      have e := isOb_eq e
      rw [List.head?_eq_getElem?] at e
      obtain ⟨g1, g2⟩ := I.ob0 e
      exact h G' H' I.b g1 g2
    · exact h.elim
  | rt r => exact h.elim
  | ex c => exact h.elim
  | bk ρ => exact h.elim
  | ct ρ => exact h.elim
  | st => exact h.elim
theorem start_okO {K : PySem.W.Frag} {G H : Hp} {N : List Str} {vs : List V} {ds : List PD} {k : Nat} {p Cl dx : Addr} {ws : List (Str × V)} {fs : List (Str × PD)} (s : Same G H) (r : RpA K G vs ds) (hn : ds.length = k) (hN : k + 1 ≤ N.length) (x1 : H p = some (.ins Cl dx ws)) (x2 : G p = none) (x3 : FldOk K G fs ws) :
    EnvOk K G (less H [p]) G H (L2.start N (.ref p :: vs)) (.ob p Cl fs :: ds.map Ent.im ++ List.replicate (N.length - (k + 1)) Ent.no) := by
  have hl := r.length
  refine ⟨by simp [L2.start]; omega, ⟨Same.refl _, less_same, s, fun _ _ _ _ h => h⟩, fun a => if a = p then some 0 else none, fun i e he => ?_⟩
  cases i with
  | zero =>
    cases he
    exact ⟨rfl, if_pos rfl, ⟨x2, less_in (List.mem_singleton.mpr rfl)⟩, dx, ws, x1, x3⟩
  | succ i =>
    have he : (ds.map Ent.im ++ List.replicate (N.length - (k + 1)) Ent.no)[i]? = some e := by simpa using he
    by_cases h : i < ds.length
    · rw [List.getElem?_append_left (by simpa using h)] at he
      rw [List.getElem?_map] at he
      cases q : ds[i]? with
      | none => rw [q] at he; cases he
      | some d =>
        rw [q] at he
        cases he
        obtain ⟨v, e1, e2⟩ := r.getD q
        refine ⟨v, ?_, e2⟩
        unfold L2.start
        rw [List.getD_eq_getElem?_getD, List.getElem?_append_left (by simp [hl]; omega), List.getElem?_map]
        show ((vs[i]?).map some).getD none = some v
        rw [e1]
        rfl
    · rw [List.getElem?_append_right (by simpa using h)] at he
      have e2 := List.mem_of_getElem? he
      rw [List.mem_replicate] at e2
      rw [e2.2]
      trivial
section
variable {P : Program} {w : World} {K : PySem.W.Frag} {mg : Str → Option Value} {base : Heap} {C : CM}
theorem fnOk_ofO {Cl : Addr} {x qual : Str} {params : Arguments} {body : List Stmt} {scope : Scope} {f : Addr} {fd : FuncData} {N ps : List Str} {k n : Nat} {den : SD} (F : FunD K x qual params body scope [] [] f fd) (S : FnScope N ps scope) (hn : ps.length = n + 1) (hN : n + 1 ≤ N.length)
    (hbody : ∀ (cdv : Value) (A : Around) (outer : List PySem.Env) (s : Shared) (H : Hp) (E : XK), Room k (A.deeper (envOfC qual scope s.heap.objs.size f cdv)) →
      SB (cxOf (L2N.CX P w) P w K mg base N qual scope f cdv A outer s H E) E C body den) :
    FnOk P w K mg base (L2N.CX P w) (k + 1) f fd ps (SpO K C Cl n (denO Cl N.length n den)) := by
  refine F.ok S (fun vs H Q E h => ?_) (fun cdv A outer s H vs Q E hr h => ?_)
  · obtain ⟨G, p, dx, ws, fs, us, ds, rfl, s, _, _, _, r, l, _⟩ := h
    rw [List.length_cons, r.length, l, hn]
  · obtain ⟨G, p, dx, ws, fs, us, ds, rfl, sm, x1, x2, x3, r, l, q⟩ := h
    obtain ⟨t, pp, sim⟩ := hbody cdv A outer s H E hr
    exact ⟨t, pp, sim G (less H [p]) G H _ _ _ (start_okO sm r l hN x1 x2 x3) (BOk.out q)⟩
/-- a def whose first argument is an instance -/
structure CalO (P : Program) (w : World) (K : PySem.W.Frag) (mg : Str → Option Value) (base : Heap) (C : CM) (Cl : Addr) (x : Str) (k n : Nat) (ps : List Str) (fn : Addr → List (Str × PD) → List PD → OB) : Prop where
  p : ∃ (f : Addr) (fd : FuncData), FnOk P w K mg base (L2N.CX P w) k f fd ps (SpO K C Cl n fn) ∧ mg x = some (.ref f) ∧ PySem.W.keepIn K (.ref f) = true ∧ Binds K fd ps []
/-- a method -/
structure CalMt (P : Program) (w : World) (K : PySem.W.Frag) (mg : Str → Option Value) (base : Heap) (C : CM) (Cl : Addr) (m : Str) (k n : Nat) (ps : List Str) (fn : Addr → List (Str × PD) → List PD → OB) : Prop where
  p : ∃ (f : Addr) (fd : FuncData), Cls K Cl ∧ Meth K Cl m f ∧ FnOk P w K mg base (L2N.CX P w) k f fd ps (SpO K C Cl n fn) ∧ Binds K fd ps []
/-- the making of an instance -/
structure CalMk (P : Program) (w : World) (K : PySem.W.Frag) (mg : Str → Option Value) (base : Heap) (C : CM) (Cl : Addr) (x : Str) (k n : Nat) (ps : List Str) (fn : Addr → List (Str × PD) → List PD → OB) : Prop where
  p : ∃ (f : Addr) (fd : FuncData), Mk K Cl f ∧ FnOk P w K mg base (L2N.CX P w) k f fd ps (SpO K C Cl n fn) ∧ mg x = some (.ref Cl) ∧ Binds K fd ps []
end
section
variable {X : Cx} {E : XK} {C : CM}
/-- the call, the instance in entry j -/
def callO (Cl : Addr) (f : Addr → List (Str × PD) → List PD → OB) (ok : List (Str × PD) → Bool) (j : Nat) (a : AD) : EX := fun ρ => match ρ[j]? with
  | some (.ob p D fs) => if D = Cl ∧ ok fs = true then match noX (a ρ) with
    | .ok rs => if rs.all R.isIm then match f p fs (rs.map R.dat) with
      | .ok (.im d) fs' => .ok (.im d) (ρ.set j (.ob p D fs'))
      | .ok (.fr n t) fs' => .ok (.fr n t) (ρ.set j (.ob p D fs'))
      | .ok (.ro _ _) _ => .st
      | .ex c fs' => .ex c (ρ.set j (.ob p D fs'))
      | .st => .st
      else .st
    | _ => .st
    else .st
  | _ => .st
theorem EnvR.gp {K : PySem.W.Frag} {G0 H0 G H : Hp} {σ : L2.St} {ρ : Env} {p : Addr} {F : List Addr} (I : EnvR K G0 H0 G H σ ρ (p :: F)) : G p = none := by
  obtain ⟨len, b, w, hw, hF⟩ := I
  exact (hF p List.mem_cons_self).2.1
theorem callO_sp {K : PySem.W.Frag} {Cl p : Addr} {n j : Nat} {f : Addr → List (Str × PD) → List PD → OB} {fs : List (Str × PD)} {G0 H0 G G1 H1 : Hp} {σ : L2.St} {ρ : Env} {Q : VK} {rs : List R} {vs : List V} (I1 : EnvOk K G0 H0 G1 H1 σ ρ) (e : ρ[j]? = some (.ob p Cl fs)) (s : Same G G1) (r : RpA K G1 vs (rs.map R.dat)) (hn : rs.length = n)
    (h : XOk K E C G0 H0 G σ Q (match f p fs (rs.map R.dat) with
      | .ok (.im d) fs' => .ok (.im d) (ρ.set j (.ob p Cl fs'))
      | .ok (.fr n t) fs' => .ok (.fr n t) (ρ.set j (.ob p Cl fs'))
      | .ok (.ro _ _) _ => .st
      | .ex c fs' => .ex c (ρ.set j (.ob p Cl fs'))
      | .st => .st)) : SpO K C Cl n f (.ref p :: vs) H1 Q E := by
  obtain ⟨e1, J, dx, ws, e2, e3⟩ := I1.dropOb e
  refine ⟨G1, p, dx, ws, fs, vs, rs.map R.dat, rfl, I1.s, e2, J.gp, e3, r, by rw [List.length_map]; exact hn, ?_⟩
  have JL := J.less
  have one : ∀ {G' H'}, Grow G1 (less H1 [p]) G' H' → G' p = none → EnvR K G0 H0 G' H' σ (ρ.set j .no) [p] := fun g gp => JL.fresh g fun a ha => by
    rw [List.mem_singleton] at ha
    subst ha
    exact ⟨less_in (List.mem_singleton.mpr rfl), gp⟩
  cases ef : f p fs (rs.map R.dat) with
  | ok r fs' =>
    rw [ef] at h
    cases r with
    | im d =>
      intro v G' H' g gp ⟨dx', ws', h1, h2⟩ hr
      have R2 := (one g gp).setOb (F := []) (by simp) e1 h1 h2
      rw [List.set_set] at R2
      exact h v G' H' [] (s.trans g.g) R2 hr
    | ro n t => exact h.elim
    | fr n t =>
      intro v G' H' g gp ⟨dx', ws', h1, h2⟩ hr
      obtain ⟨z, z1, z2, z3, z4, z5⟩ := hr
      have R1 := JL.fresh g (F := p :: ATy.adr (n + 1) z) fun a ha => by
        rcases List.mem_cons.mp ha with q | q
        · rw [q]
          exact ⟨less_in (List.mem_singleton.mpr rfl), gp⟩
        · exact z5 a q
      have np : p ∉ ATy.adr (n + 1) z := fun q => by
        obtain ⟨xs, hx⟩ := ATy.in_heap _ _ z3 p q
        rw [h1] at hx
        cases hx
      have R2 := R1.setOb np e1 h1 h2
      rw [List.set_set] at R2
      exact h v G' H' (ATy.adr (n + 1) z) (s.trans g.g) R2 ⟨z, z1, z2, z3, z4, fun a ha => ha⟩
  | ex c fs' =>
    rw [ef] at h
    intro G' H' g gp ⟨dx', ws', h1, h2⟩
    have R2 := (one g gp).setOb (F := []) (by simp) e1 h1 h2
    rw [List.set_set] at R2
    exact h G' H' (s.trans g.g) R2.ok
  | st => rw [ef] at h; exact h.elim
theorem sim_callO {K : PySem.W.Frag} {Cl : Addr} {n j : Nat} {f : Addr → List (Str × PD) → List PD → OB} {ta : TA} {a : AD} (hn : ∀ ρ rs, a ρ = .ok rs → rs.length = n) (ha : SimA K E C ta a) : SimX K E C (tCall (SpO K C Cl n f) [] E (tCons (tVar j) ta)) (callO Cl f (fun _ => true) j a) := by
  intro G0 H0 G H σ ρ Q I h
  unfold callO at h
  split at h
  · rename_i p D fs e
    by_cases c : D = Cl ∧ true = true
    · rw [if_pos c] at h
      obtain ⟨rfl, _⟩ := c
      obtain ⟨e1, _⟩ := I.dropOb e
      refine ⟨_, getD_some e1, ?_⟩
      refine ha G0 H0 G H σ ρ _ I ?_
      cases ea : a ρ with
      | ex c => rw [ea] at h; exact h.elim
      | st => rw [ea] at h; exact h.elim
      | ok rs =>
        rw [ea] at h
        simp only [noX] at h
        intro vs G1 H1 g1 k1
        by_cases c : rs.all R.isIm = true
        · rw [if_pos c] at h
          show SpO K C D n f (.ref p :: vs ++ []) H1 Q E
          rw [List.append_nil]
          exact callO_sp (I.grow g1) e g1.g (k1.ims (ims_all c)) (hn _ _ ea) h
        · rw [if_neg c] at h; exact h.elim
    · rw [if_neg c] at h; exact h.elim
  · exact h.elim
theorem sx_callO {Cl : Addr} {k kk n j : Nat} {ps : List Str} {fn : Addr → List (Str × PD) → List PD → OB} {x y : Str} {es : List Expr} {a : AD} {p yp pos : Pos} (G : CalO X.prog X.w X.K X.mg X.base C Cl x k n ps fn) (hr : Room kk X.A) (hk : k ≤ kk) (hx : Passes (L2N.CX X.prog X.w) X E)
    (hl : ALen a n) (ha : SA X E C es a) (hN : X.N[j]? = some y := by rfl) (hv : Vis X.env.scope y := by first | exact Or.inl rfl | exact Or.inr (Or.inl rfl) | exact Or.inr (Or.inr rfl)) (hd : (y == ("__debug__" : Str)) = false := by decide) (hcd : (y == ("__classdict__" : Str)) = false := by decide)
    (hg : Gl X x := by rfl) (hdb : (x == ("__debug__" : Str)) = false := by decide) (he : starEach (.Name y yp :: es) X.env = (false, eval (.Name y yp) X.env) :: starEach es X.env := by rfl) (hpl : (backTo pos (starEach es X.env)).any (·.1) = false := by rfl) :
    SX X E C (.Call (.Name x p) (.Name y yp :: es) [] pos) (callO Cl fn (fun _ => true) j a) := by
  obtain ⟨ta, pa, sa⟩ := ha
  obtain ⟨f, fd, F, hm, hkp, hb⟩ := G.p
  exact ⟨_, pe_call F (hr.mono hk) hg hm hkp hb .nil hx (pa_cons (pe_var hN hv hd hcd) pa he) hdb he hpl, sim_callO hl.l sa⟩
/-- y.m(..) -/
def callMt (Cl : Addr) (m : Str) (f : Addr → List (Str × PD) → List PD → OB) (j : Nat) (a : AD) : EX := callO Cl f (fun fs => (fs.lookup m).isNone) j a
theorem sim_callMt {K : PySem.W.Frag} {Cl : Addr} {m : Str} {n j : Nat} {f : Addr → List (Str × PD) → List PD → OB} {ta : TA} {a : AD} (hn : ∀ ρ rs, a ρ = .ok rs → rs.length = n) (ha : SimA K E C ta a) : SimX K E C (tMeth Cl m (SpO K C Cl n f) [] E (tVar j) ta) (callMt Cl m f j a) := by
  intro G0 H0 G H σ ρ Q I h
  unfold callMt callO at h
  split at h
  · rename_i p D fs e
    by_cases c : D = Cl ∧ (fs.lookup m).isNone = true
    · rw [if_pos c] at h
      obtain ⟨rfl, hnone⟩ := c
      obtain ⟨e1, _, dx, ws, e2, e3⟩ := I.dropOb e
      refine ⟨_, getD_some e1, p, dx, ws, rfl, e2, e3.none (Option.isNone_iff_eq_none.mp hnone), ?_⟩
      refine ha G0 H0 G H σ ρ _ I ?_
      cases ea : a ρ with
      | ex c => rw [ea] at h; exact h.elim
      | st => rw [ea] at h; exact h.elim
      | ok rs =>
        rw [ea] at h
        simp only [noX] at h
        intro vs G1 H1 g1 k1
        by_cases c : rs.all R.isIm = true
        · rw [if_pos c] at h
          show SpO K C D n f (.ref p :: (vs ++ [])) H1 Q E
          rw [List.append_nil]
          exact callO_sp (I.grow g1) e g1.g (k1.ims (ims_all c)) (hn _ _ ea) h
        · rw [if_neg c] at h; exact h.elim
    · rw [if_neg c] at h; exact h.elim
  · exact h.elim
theorem sx_callMt {Cl : Addr} {k kk n j : Nat} {ps : List Str} {fn : Addr → List (Str × PD) → List PD → OB} {m y : Str} {e : Expr} {es : List Expr} {a : AD} {yp apos pos : Pos} {pl : Sem Bool} (G : CalMt X.prog X.w X.K X.mg X.base C Cl m k n ps fn) (hr : Room kk X.A) (hk : k ≤ kk) (hx : Passes (L2N.CX X.prog X.w) X E)
    (hl : ALen a n) (ha : SA X E C (e :: es) a) (hN : X.N[j]? = some y := by rfl) (hv : Vis X.env.scope y := by first | exact Or.inl rfl | exact Or.inr (Or.inl rfl) | exact Or.inr (Or.inr rfl)) (hd : (y == ("__debug__" : Str)) = false := by decide) (hcd : (y == ("__classdict__" : Str)) = false := by decide)
    (he : starEach (e :: es) X.env = (false, eval e X.env) :: starEach es X.env := by rfl) (hpl : (backTo pos (starEach es X.env)).any (·.1) = false := by rfl)
    (ht : eval (.Call (.Attribute (.Name y yp) m apos) (e :: es) [] pos) X.env = (do
      let ov ← eval (.Name y yp) X.env
      standAt apos.atName
      let (f, first) ← holding [ov] (getMethod ov m pl)
      callWith pos f first (backTo pos (starEach (e :: es) X.env)) (backToKw pos (keywordEach [] X.env))) := by rfl) :
    SX X E C (.Call (.Attribute (.Name y yp) m apos) (e :: es) [] pos) (callMt Cl m fn j a) := by
  obtain ⟨ta, pa, sa⟩ := ha
  obtain ⟨f, fd, c, hm, F, hb⟩ := G.p
  exact ⟨_, pe_meth (pe_var hN hv hd hcd) c hm F (hr.mono hk) hb .nil hx pa he hpl ht, sim_callMt hl.l sa⟩
theorem sx_callMt0 {Cl : Addr} {k kk j : Nat} {ps : List Str} {fn : Addr → List (Str × PD) → List PD → OB} {m y : Str} {yp apos pos : Pos} {pl : Sem Bool} (G : CalMt X.prog X.w X.K X.mg X.base C Cl m k 0 ps fn) (hr : Room kk X.A) (hk : k ≤ kk) (hx : Passes (L2N.CX X.prog X.w) X E)
    (hN : X.N[j]? = some y := by rfl) (hv : Vis X.env.scope y := by first | exact Or.inl rfl | exact Or.inr (Or.inl rfl) | exact Or.inr (Or.inr rfl)) (hd : (y == ("__debug__" : Str)) = false := by decide) (hcd : (y == ("__classdict__" : Str)) = false := by decide)
    (ht : eval (.Call (.Attribute (.Name y yp) m apos) [] [] pos) X.env = (do
      let ov ← eval (.Name y yp) X.env
      standAt apos.atName
      let (f, first) ← holding [ov] (getMethod ov m pl)
      callWith pos f first (backTo pos (starEach [] X.env)) (backToKw pos (keywordEach [] X.env))) := by rfl) :
    SX X E C (.Call (.Attribute (.Name y yp) m apos) [] [] pos) (callMt Cl m fn j nilA) := by
  obtain ⟨f, fd, c, hm, F, hb⟩ := G.p
  obtain ⟨ta, pa, sa⟩ := (sa_nil : SA X E C [] nilA)
  exact ⟨_, pe_meth0 (pe_var hN hv hd hcd) c hm F (hr.mono hk) hb .nil hx (ht := ht), sim_callMt (fun ρ rs e => by cases e; rfl) (fun G0 H0 G H σ ρ Q I h => h [] G H (Grow.refl I.s) .nil)⟩
/-- x = Class(..), then the rest -/
def dropV : SO → SO
  | .rv r _ => .rt r
  | .ev c _ => .ex c
  | o => o
theorem SOk.dropV {K : PySem.W.Frag} {E : XK} {C : CM} {G0 H0 G : Hp} {D : Ends} {o : SO} (h : SOk K E C G0 H0 G D (Z.dropV o)) : SOk K E C G0 H0 G D o := by
  cases o with
  | rv r ρ => exact fun v σ G' H' s I hr => h v G' H' I.b hr
  | ev c ρ => exact fun σ G' H' s I => h G' H' I.b
  | nx ρ => exact h
  | rt r => exact h
  | ex c => exact h
  | bk ρ => exact h
  | ct ρ => exact h
  | st => exact h
def mkO (Cl : Addr) (i : Nat) (f : Addr → List (Str × PD) → List PD → OB) (a : AD) (d : SD) (p : Addr) : SD := fun ρ => match noX (a ρ) with
  | .ok rs => if rs.all R.isIm then match f p [] (rs.map R.dat) with
    | .ok (.im .none) fs => dropV (d (ρ.set i (.ob p Cl fs)))
    | _ => .st
    else .st
  | _ => .st
open Classical in
noncomputable def mkB (Cl : Addr) (i : Nat) (f : Addr → List (Str × PD) → List PD → OB) (a : AD) (d : SD) : SD := fun ρ => if ∀ p : Addr, mkO Cl i f a d p ρ = mkO Cl i f a d 0 ρ then mkO Cl i f a d 0 ρ else .st
theorem EnvR.newOb {K : PySem.W.Frag} {G0 H0 G H : Hp} {σ : L2.St} {ρ : Env} {p Cl dx : Addr} {i : Nat} {fs : List (Str × PD)} {vs : List (Str × V)} (I : EnvR K G0 H0 G H σ ρ [p]) (e2 : H p = some (.ins Cl dx vs)) (e3 : FldOk K G fs vs) : EnvOk K G0 H0 G H (σ.set i (some (.ref p))) (ρ.set i (.ob p Cl fs)) := by
  obtain ⟨len, b, w, hw, hF⟩ := I
  obtain ⟨n1, n2, n3⟩ := hF p List.mem_cons_self
  refine ⟨by simp [len], b, fun a => if a = p then some i else w a, fun j e he => ?_⟩
  by_cases c : i = j
  · subst c
    by_cases hl : i < ρ.length
    · rw [List.getElem?_set_self hl] at he
      cases he
      rw [getD_set_self (by omega)]
      exact ⟨rfl, if_pos rfl, ⟨n2, n3⟩, dx, vs, e2, e3⟩
    · rw [List.getElem?_eq_none (by simp; omega)] at he
      cases he
  · rw [List.getElem?_set_ne c] at he
    rw [getD_set_ne c]
    refine (hw j e he).relabel fun a ha => ?_
    show (if a = p then some i else w a) = some j
    rw [if_neg]
    · exact ha
    · intro q
      subst q
      rw [n1] at ha
      cases ha
theorem sb_mk {Cl : Addr} {k kk n : Nat} {ps : List Str} {fn : Addr → List (Str × PD) → List PD → OB} {cx x : Str} {e : Expr} {es : List Expr} {a : AD} {rest : List Stmt} {d : SD} {p pos' cpos pos : Pos} (i : Nat) (G : CalMk X.prog X.w X.K X.mg X.base C Cl cx k n ps fn) (hr : Room kk X.A) (hk : k + 1 ≤ kk) (hx : Passes (L2N.CX X.prog X.w) X E)
    (hl : ALen a n) (ha : SA X E C (e :: es) a) (hb : SB X E C rest d) (hNd : X.N.Nodup) (hloc : Loc X.env.scope x) (hi : X.N[i]? = some x := by rfl) (hf : X.fn x = true ∨ X.env.scope.names.lookup x = some .local := by first | exact .inl rfl | exact .inr rfl | assumption)
    (hg : Gl X cx := by rfl) (hdb : (cx == ("__debug__" : Str)) = false := by decide) (he : starEach (e :: es) X.env = (false, eval e X.env) :: starEach es X.env := by rfl) (hpl : (backTo cpos (starEach es X.env)).any (·.1) = false := by rfl)
    (hs : swapsWith (.Call (.Name cx p) (e :: es) [] cpos) (some (.Name x pos')) pos.line X.env = pure false := by rfl) :
    SB X E C (.Assign [.Name x pos'] (.Call (.Name cx p) (e :: es) [] cpos) pos :: rest) (mkB Cl i fn a d) := by
  obtain ⟨f, fd, M, F, hm, hbd⟩ := G.p
  obtain ⟨ta, pa, sa⟩ := ha
  obtain ⟨tb, pb, sb⟩ := hb
  refine ⟨_, pss_cons (ps_asg (pe_make M F (hr.mono hk) hg hm hbd .nil hx pa hdb he hpl) (pg_name hNd hi hloc hf) hs) pb, fun G0 H0 G H σ ρ D I h => ?_⟩
  unfold mkB at h
  by_cases hind : ∀ p : Addr, mkO Cl i fn a d p ρ = mkO Cl i fn a d 0 ρ
  rotate_left
  · rw [if_neg hind] at h; exact h.elim
  rw [if_pos hind] at h
  refine sa G0 H0 G H σ ρ _ I ?_
  cases ea : a ρ with
  | ex c => unfold mkO at h; rw [ea] at h; exact h.elim
  | st => unfold mkO at h; rw [ea] at h; exact h.elim
  | ok rs =>
    intro vs G1 H1 g1 k1
    intro y dx hy hd hne
    rw [← hind y] at h
    unfold mkO at h
    rw [ea] at h
    simp only [noX] at h
    by_cases c : rs.all R.isIm = true
    rotate_left
    · rw [if_neg c] at h; exact h.elim
    rw [if_pos c] at h
    rw [List.append_nil]
    have I1 := I.grow g1
    have hs1 : Same H1 (less (upd (upd H1 dx (.own y)) y (.ins Cl dx [])) [y]) := fun b o e => by
      have b1 : b ≠ y := ne_of_none e hy
      have b2 : b ≠ dx := ne_of_none e hd
      rw [less_out (by simpa using b1), upd_ne b1, upd_ne b2]
      exact e
    have hs2 : Same H1 (upd (upd H1 dx (.own y)) y (.ins Cl dx [])) := hs1.trans less_same
    have gy : G1 y = none := I1.s.free hy
    refine ⟨G1, y, dx, [], [], vs, rs.map R.dat, rfl, I1.s.trans hs2, upd_same, gy, .nil, (k1.ims (ims_all c)), by rw [List.length_map]; exact hl.l _ _ ea, ?_⟩
    cases ef : fn y [] (rs.map R.dat) with
    | ex c fs => rw [ef] at h; exact h.elim
    | st => rw [ef] at h; exact h.elim
    | ok r fs =>
      rw [ef] at h
      split at h
      · rename_i fs2 e2
        cases e2
        intro v G' H' g gp hp hr
        obtain ⟨dx', ws', h1, h2⟩ := hp
        have hr : Rp _ G' v .none := hr
        cases hr
        refine ⟨rfl, ?_⟩
        have g0 : Grow G1 H1 G1 (less (upd (upd H1 dx (.own y)) y (.ins Cl dx [])) [y]) := ⟨Same.refl _, hs1, I1.s.trans hs1, fun _ _ _ _ h => h⟩
        have J := I1.fresh (g0.trans g) (F := [y]) fun a ha => by
          rw [List.mem_singleton] at ha
          subst ha
          exact ⟨hy, gp⟩
        exact sb G0 H0 G' H' _ _ D (J.newOb h1 h2) (SOk.up (SOk.dropV h) (g1.g.trans g.g))
      · exact h.elim
/-- x.clear(), x not read again -/
def clrD (i : Nat) : SD := fun ρ => match ρ[i]? with
  | some (.ow _ _) => .nx (ρ.set i .no)
  | _ => .st
theorem ss_clr {x : Str} {xp apos cpos pos : Pos} (i : Nat) (hNi : X.N[i]? = some x := by rfl) (hv : Vis X.env.scope x := by first | exact Or.inl rfl | exact Or.inr (Or.inl rfl) | exact Or.inr (Or.inr rfl)) (hd : (x == ("__debug__" : Str)) = false := by decide) (hcd : (x == ("__classdict__" : Str)) = false := by decide)
    (hp : ∀ to, PE X (.Name x xp) to → PE X (.Call (.Attribute (.Name x xp) "clear" apos) [] [] cpos) (tBM0 X.K "list" rClear to)) (hs : swapsWith (.Call (.Attribute (.Name x xp) "clear" apos) [] [] cpos) none pos.line X.env = pure false := by rfl) :
    SS X E C (.Expr (.Call (.Attribute (.Name x xp) "clear" apos) [] [] cpos) pos) (clrD i) := by
  refine ⟨_, ps_expr (hp _ (pe_var hNi hv hd hcd)) hs, fun G0 H0 G H σ ρ D I h => ?_⟩
  unfold clrD at h
  split at h
  · rename_i n t e
    obtain ⟨y, c1, c2, c3, c4, J⟩ := I.drop e
    obtain ⟨p, kids⟩ := y
    have hl : H p = some (.lst (kids.map (ATy.val n))) := c3.1
    have J' : EnvR X.K G0 H0 G H σ (ρ.set i .no) (p :: kids.flatMap (ATy.adr n)) := J
    refine ⟨_, getD_some c1, .inl ⟨rfl, _, SqL.of hl⟩, p, _, rfl, rfl, hl, ?_⟩
    exact h σ G _ (Same.refl _) (J'.write (o := .lst [])).ok
  · exact h.elim
end
/-! ### for x, y in zip(a, b) -/
theorem zipL_get {ds es : List PD} {i : Nat} {d : PD} (h : (zipL ds es)[i]? = some d) : ∃ x y, ds[i]? = some x ∧ es[i]? = some y ∧ d = .tuple [x, y] := by
  unfold zipL at h
  rw [List.getElem?_map] at h
  cases e : (ds.zip es)[i]? with
  | none => rw [e] at h; cases h
  | some p =>
    rw [e] at h
    rw [List.getElem?_zip_eq_some] at e
    exact ⟨p.1, p.2, e.1, e.2, (Option.some.inj h).symm⟩
theorem walks_zip {K : PySem.W.Frag} {G : Hp} {a b : Addr} {vs us : List V} {ds es : List PD} {S : Hp → Prop} (hS : ∀ H, S H → SqL K H a vs ∧ SqL K H b us ∧ Same G H) (r : RpA K G vs ds) (r2 : RpA K G us es) : Walks K (Itz K a b) G (zipL ds es) S := by
  intro i H hs
  obtain ⟨h1, h2, s⟩ := hS H hs
  have hl : (zipL ds es).length = min ds.length es.length := by simp [zipL]
  refine ⟨fun hi => ⟨vs, us, h1, h2, by rw [r.length, r2.length]; rw [hl] at hi; omega⟩, fun d hd => ?_⟩
  obtain ⟨x, y, hx, hy, rfl⟩ := zipL_get hd
  obtain ⟨v, hv, rv⟩ := r.getD hx
  obtain ⟨u, hu, ru⟩ := r2.getD hy
  refine ⟨⟨vs, us, v, u, h1, h2, hv, hu⟩, fun v' H' hz => ?_⟩
  obtain ⟨T, v2, u2, rfl, hT, rfl, f, g⟩ := hz
  have e : vs[i]? = some v2 := f vs h1
  have e2 : us[i]? = some u2 := g us h2
  rw [hv] at e
  rw [hu] at e2
  cases e
  cases e2
  exact fun G' s1 s2 => ⟨_, Grow.newK s2 hT, .tup upd_same (.cons ((rv.up s1).up (same_upd (s2.free hT))) (.cons ((ru.up s1).up (same_upd (s2.free hT))) .nil))⟩
section
variable {X : Cx} {E : XK} {C : CM}
def zpD (a b : ED) : LD := fun ρ => (a ρ).bind fun r1 => (b ρ).bind fun r2 => match r1.fz, r2.fz with
  | .im (.list ds), .im (.list es) => .ok (zipL ds es)
  | _, _ => .st
theorem si_zip {e e2 : Expr} {a b : ED} {p pos tpos : Pos} {elts : List Expr} {kk : Nat} (hg : Gl X "zip") (hm : X.mg "zip" = none) (ha : SE X E C e a) (hb : SE X E C e2 b) (hs : starEach [e, e2] X.env = (false, eval e X.env) :: starEach [e2] X.env := by rfl) (hs1 : starEach [e2] X.env = (false, eval e2 X.env) :: starEach [] X.env := by rfl) (hpl : (backTo pos (starEach [e2] X.env)).any (·.1) = false := by rfl) : SI X E C (.Tuple elts kk tpos) (.Call (.Name "zip" p) [e, e2] [] pos) (zpD a b) := by
  obtain ⟨ta, pa, sa⟩ := ha
  obtain ⟨tb, pb, sb⟩ := hb
  refine ⟨_, pi_zip hg hm (pa_cons pa (pa_cons pb pa_nil hs1) hs) hs hpl, fun G0 H0 G H σ ρ Q I h => ?_⟩
  have h' : ItOk X.K E C (fun G' _ H2 => Same G' H2) Q G H (zpD a b ρ) := h
  unfold zpD at h'
  refine sa.useF (P := ItOk X.K E C (fun G' _ H2 => Same G' H2) Q) famI I h' fun r1 x G1 H1 e1 g1 I1 k1 h1 => ?_
  refine sb.useF (P := ItOk X.K E C (fun G' _ H2 => Same G' H2) Q) famI I1 h1 fun r2 y G2 H2 e2 g2 I2 k2 h2 => ?_
  have k1' := k1.grow g2
  split at h2
  · rename_i ds es q1 q2
    rw [q1] at k1'
    rw [q2] at k2
    have k1'' : Rp _ G2 x (.list ds) := k1'
    have k2' : Rp _ G2 y (.list es) := k2
    cases k1'' with
    | lst t1 t2 =>
      cases k2' with
      | lst u1 u2 => exact ⟨_, _, _, _, rfl, SqL.of (I2.s _ _ t1), SqL.of (I2.s _ _ u1), h2 _ G2 H2 (Grow.refl I2.s) (walks_zip (fun H hs => ⟨SqL.of (hs _ _ t1), SqL.of (hs _ _ u1), hs⟩) t2 u2)⟩
  · exact h2.elim
end
end Z

/-! ## M1 -/
set_option Elab.async false
set_option linter.all false
set_option maxRecDepth 100000
set_option maxHeartbeats 1000000
namespace Z
open PySem PySem.Spec PyProof.Rows L2
@[simp] theorem intsOf_map_ (ns : List Int) : intsOf (ns.map PyData.int) = some ns := intsOf_map ns
@[simp] theorem boolsOf_map_ (ns : List Bool) : boolsOf (ns.map PyData.bool) = some ns := boolsOf_map ns
/-! ### lists of ints, lists of such -/
@[simp] abbrev L1 (ns : List Int) : PD := .list (ns.map PyData.int)
@[simp] abbrev LL (rs : List (List Int)) : PD := .list (rs.map fun ns => L1 ns)
@[simp] abbrev T1 (ns : List Int) : List PD := ns.map PyData.int
@[simp] abbrev T2 (rs : List (List Int)) : List (List PD) := @List.map (List Int) (List PD) (fun ns => ns.map PyData.int) rs
@[simp] abbrev Sc (ns : List Int) : PD := .dict [(.none, .list (ns.map PyData.int))]
@[simp] theorem dat_two (l : List (List PD)) : Ty.dat 2 l = .list (l.map fun u => .list u) := by
  show PyData.list (List.map (Ty.dat 1) l) = _
  congr 1
  exact List.map_congr_left fun u _ => by
    show PyData.list (List.map (Ty.dat 0) u) = _
    congr 1
    exact List.map_id _
@[simp] theorem dat_T2 (rs : List (List Int)) : Ty.dat 2 (T2 rs) = LL rs := by
  rw [dat_two, List.map_map]
  rfl
@[simp] theorem dat_one (l : List PD) : Ty.dat 1 l = .list l := by
  show PyData.list (List.map (Ty.dat 0) l) = _
  congr 1
  exact List.map_id _
@[simp] theorem dat_map {α : Type} (g : α → PD) (xs : List α) : Ty.dat 1 (@List.map α PD g xs) = .list (xs.map g) := dat_one _
@[simp] theorem dat_int (xs : List Int) : Ty.dat 1 (@List.map Int (Ty 0) PyData.int xs) = L1 xs := dat_one _
@[simp] theorem boolsOf_mapf {α : Type} (g : α → Bool) (xs : List α) : boolsOf (xs.map fun v => PyData.bool (g v)) = some (xs.map g) := by
  rw [← boolsOf_map, List.map_map]; rfl
@[simp] theorem intsOf_mapf {α : Type} (g : α → Int) (xs : List α) : intsOf (xs.map fun v => PyData.int (g v)) = some (xs.map g) := by
  rw [← intsOf_map, List.map_map]; rfl
@[simp] theorem fcomp {α β γ : Type} (f : β → γ) (g : α → β) : f ∘ g = fun x => f (g x) := rfl
@[simp] theorem lfv_1 (l : List PD) : Ty.lfv 1 l = l.all lf := rfl
@[simp] theorem lfv_2 (l : List (List PD)) : Ty.lfv 2 l = l.all fun u => u.all lf := rfl
@[simp] theorem lf_int (i : Int) : lf (.int i) = true := by simp [lf]
@[simp] theorem lf_bool (i : Bool) : lf (.bool i) = true := by simp [lf]
@[simp] theorem lf_none : lf .none = true := by simp [lf]
/-! ### results, read -/
@[simp] theorem e_dat1 (d : PD) : R.dat (.im d) = d := rfl
@[simp] theorem e_dat2 (n : Nat) (t : Ty (n + 1)) : R.dat (.ro n t) = Ty.dat (n + 1) t := rfl
@[simp] theorem e_dat3 (n : Nat) (t : Ty (n + 1)) : R.dat (.fr n t) = Ty.dat (n + 1) t := rfl
@[simp] theorem e_fz1 (d : PD) : R.fz (.im d) = .im d := rfl
@[simp] theorem e_fz2 (n : Nat) (t : Ty (n + 1)) : R.fz (.ro n t) = .ro n t := rfl
@[simp] theorem e_fz3 (n : Nat) (t : Ty (n + 1)) : R.fz (.fr n t) = .im (Ty.dat (n + 1) t) := rfl
@[simp] theorem e_im1 (d : PD) : R.isIm (.im d) = true := rfl
@[simp] theorem e_im2 (n : Nat) (t : Ty (n + 1)) : R.isIm (.ro n t) = false := rfl
@[simp] theorem e_im3 (n : Nat) (t : Ty (n + 1)) : R.isIm (.fr n t) = false := rfl
@[simp] theorem e_fl1 (d : PD) : R.flat (.im d) = lf d := rfl
@[simp] theorem e_fl2 (n : Nat) (t : Ty (n + 1)) : R.flat (.ro n t) = false := rfl
@[simp] theorem e_fl3 (n : Nat) (t : Ty (n + 1)) : R.flat (.fr n t) = Ty.lfv (n + 1) t := rfl
@[simp] theorem e_en1 (d : PD) : entOf (.im d) = some (.im d) := rfl
@[simp] theorem e_en2 (n : Nat) (t : Ty (n + 1)) : entOf (.ro n t) = none := rfl
@[simp] theorem e_en3 (n : Nat) (t : Ty (n + 1)) : entOf (.fr n t) = some (.ow n t) := rfl
@[simp] theorem e_ims1 : ims [] = some [] := rfl
@[simp] theorem e_ims2 (d : PD) (rs : List R) : ims (.im d :: rs) = (ims rs).map (d :: ·) := rfl
@[simp] theorem e_ki1 (l : List PD) : kids (.im (.list l)) = some l := rfl
@[simp] theorem e_ks1 (l : List PD) : kidsS (.im (.list l)) = some l := rfl
@[simp] theorem e_ks2 (l : List PD) : kidsS (.im (.dict [(.none, .list l)])) = some l := rfl
@[simp] theorem e_kt1 (l : List PD) : kidsT (.im (.list l)) = some l := rfl
@[simp] theorem e_kt2 (l : List PD) : kidsT (.im (.dict [(.none, .list l)])) = some l := rfl
@[simp] theorem e_kt3 (l : List PD) : kidsT (.im (.tuple l)) = some l := rfl
@[simp] theorem e_kt4 (l : List PD) : kidsT (.ro 0 l) = some l := rfl
@[simp] theorem kids_ro (l : List PD) : kids (.ro 0 l) = some l := rfl
@[simp] theorem kidsS_ro (l : List PD) : kidsS (.ro 0 l) = some l := rfl
@[simp] theorem ixF_1 (l : List PD) (i : Int) : ixF (.im (.list l)) i = (atI l i).map .im := rfl
@[simp] theorem ixF_2 (l : List PD) (i : Int) : ixF (.im (.tuple l)) i = (atI l i).map .im := rfl
@[simp] theorem ixF_3 (l : List PD) (i : Int) : ixF (.im (.dict [(.none, .list l)])) i = (atI l i).map .im := rfl
@[simp] theorem ixF_ro0 (l : List PD) (i : Int) : ixF (.ro 0 l) i = (atI l i).map .im := rfl
@[simp] theorem ixF_ro1 (l : List (List PD)) (i : Int) : ixF (.ro 1 l) i = (atI l i).map fun (u : List PD) => R.ro 0 u := rfl
@[simp] theorem e_sub (i j : Int) : subI (.int i) (.int j) = some (.int (i - j)) := rfl
@[simp] theorem e_mod (i j : Int) : modI (.int i) (.int j) = if 0 < j then some (.int (i % j)) else none := rfl
@[simp] theorem e_div (i j : Int) : divI (.int i) (.int j) = @ite _ (0 < j ∧ j < 1073741824) (Classical.propDecidable _) (some (.int (i / j))) none := rfl
@[simp] theorem e_lt (i j : Int) : ltI (.int i) (.int j) = some (.bool (decide (i < j))) := rfl
@[simp] theorem e_le (i j : Int) : leI (.int i) (.int j) = some (.bool (decide (i ≤ j))) := rfl
@[simp] theorem e_gt (i j : Int) : gtI (.int i) (.int j) = some (.bool (decide (j < i))) := rfl
@[simp] theorem e_ge (i j : Int) : geI (.int i) (.int j) = some (.bool (decide (j ≤ i))) := rfl
@[simp] theorem e_neg (i : Int) : negI (.int i) = some (.int (-i)) := rfl
@[simp] theorem e_isNF (d : PD) : isNF d .none = some (.bool (isN d)) := rfl
@[simp] theorem e_nNF (d : PD) : nNF d .none = some (.bool (!isN d)) := rfl
@[simp] theorem e_isN1 : isN .none = true := rfl
@[simp] theorem e_isN2 (i : Int) : isN (.int i) = false := rfl
@[simp] theorem e_isN3 (i : Bool) : isN (.bool i) = false := rfl
@[simp] theorem e_isN4 (i : List PD) : isN (.list i) = false := rfl
@[simp] theorem e_isN5 (i : List PD) : isN (.tuple i) = false := rfl
@[simp] theorem e_len1 (l : List PD) : lenF [.list l] = some (.int (l.length : Nat)) := rfl
@[simp] theorem e_len2 (l : List PD) : lenF [.tuple l] = some (.int (l.length : Nat)) := rfl
@[simp] theorem e_len3 (l : List PD) : lenF [.dict [(.none, .list l)]] = some (.int (l.length : Nat)) := rfl
@[simp] theorem e_ofI (f : List Int → Option PD) (l : List PD) : ofInts f [.list l] = (intsOf l).bind f := rfl
@[simp] theorem e_ofB (f : List Bool → Option PD) (l : List PD) : ofBools f [.list l] = (boolsOf l).bind f := rfl
@[simp] theorem e_max2 (i j : Int) : max2F [.int i, .int j] = some (.int (max i j)) := by
  have : (if j > i then j else i) = max i j := by split <;> omega
  rw [← this]
  rfl
@[simp] theorem e_min2 (i j : Int) : min2F [.int i, .int j] = some (.int (min i j)) := by
  have : (if j < i then j else i) = min i j := by split <;> omega
  rw [← this]
  rfl
@[simp] theorem e_int1 (i : Int) : intF [.int i] = some (.int i) := rfl
@[simp] theorem e_int2 (b : Bool) : intF [.bool b] = some (.int (if b then 1 else 0)) := rfl
@[simp] theorem e_ty1 : tyP .none = "NoneType" := rfl
@[simp] theorem e_ty2 (b : Bool) : tyP (.bool b) = "bool" := rfl
@[simp] theorem e_ty3 (b : Int) : tyP (.int b) = "int" := rfl
@[simp] theorem e_ty4 (b : Str) : tyP (.str b) = "str" := rfl
@[simp] theorem e_ty5 (b : List PD) : tyP (.list b) = "list" := rfl
@[simp] theorem e_ty6 (b : List PD) : tyP (.tuple b) = "tuple" := rfl
@[simp] theorem e_ty7 : tyP (.dict []) = "dict" := rfl
@[simp] theorem e_isi1 (T : String) : isiF T .none = (kitB "NoneType" T).map PyData.bool := rfl
@[simp] theorem e_isi2 (T : String) (b : Bool) : isiF T (.bool b) = (kitB "bool" T).map PyData.bool := rfl
@[simp] theorem e_isi3 (T : String) (b : Int) : isiF T (.int b) = (kitB "int" T).map PyData.bool := rfl
@[simp] theorem e_isi4 (T : String) (b : Str) : isiF T (.str b) = (kitB "str" T).map PyData.bool := rfl
@[simp] theorem e_isi5 (T : String) (b : List PD) : isiF T (.list b) = (kitB "list" T).map PyData.bool := rfl
@[simp] theorem e_isi6 (T : String) (b : List PD) : isiF T (.tuple b) = (kitB "tuple" T).map PyData.bool := rfl
theorem dat_three (l : List (List (List PD))) : Ty.dat 3 l = .list (l.map fun u => .list (u.map fun w => .list w)) := by
  show PyData.list (List.map (Ty.dat 2) l) = _
  congr 1
  exact List.map_congr_left fun u _ => dat_two u
/-- reading an entry -/
def varE : Option Ent → Out R
  | some (.im d) => .ok (.im d)
  | some (.ow n t) => .ok (.ro n t)
  | _ => .st
@[simp] theorem un_var (i : Nat) (ρ : Env) : varD i ρ = varE ρ[i]? := rfl
@[simp] theorem e_vdi (d : PD) : varE (some (.im d)) = .ok (.im d) := rfl
/-- giving an entry -/
def retE : Option Ent → SO
  | some (.im d) => .rt (.im d)
  | some (.ow n t) => .rt (.fr n t)
  | _ => .st
@[simp] theorem un_retV (i : Nat) (ρ : Env) : retVD i ρ = retE ρ[i]? := rfl
@[simp] theorem e_rvi (d : PD) : retE (some (.im d)) = .rt (.im d) := rfl
@[simp] theorem e_datr0 (l : List PD) : R.dat (.ro 0 l) = PyData.list l := dat_one l
@[simp] theorem e_datf0 (l : List PD) : R.dat (.fr 0 l) = PyData.list l := dat_one l
@[simp] theorem e_fzr0 (l : List PD) : R.fz (.ro 0 l) = .ro 0 l := rfl
@[simp] theorem e_fzf0 (l : List PD) : R.fz (.fr 0 l) = .im (PyData.list l) := by
  rw [← dat_one l]
  rfl
@[simp] theorem e_imr0 (l : List PD) : R.isIm (.ro 0 l) = false := rfl
@[simp] theorem e_imf0 (l : List PD) : R.isIm (.fr 0 l) = false := rfl
@[simp] theorem e_flf0 (l : List PD) : R.flat (.fr 0 l) = (l.all lf) := rfl
@[simp] theorem e_enf0 (l : List PD) : entOf (.fr 0 l) = some (.ow 0 l) := rfl
@[simp] theorem e_vd0 (i : Nat) (l : List PD) : varE (some (.ow 0 l)) = .ok (.ro 0 l) := rfl
@[simp] theorem e_rv0 (i : Nat) (l : List PD) : retE (some (.ow 0 l)) = .rt (.fr 0 l) := rfl
@[simp] theorem e_datr1 (l : List (List PD)) : R.dat (.ro 1 l) = PyData.list (l.map fun u => PyData.list u) := dat_two l
@[simp] theorem e_datf1 (l : List (List PD)) : R.dat (.fr 1 l) = PyData.list (l.map fun u => PyData.list u) := dat_two l
@[simp] theorem e_fzr1 (l : List (List PD)) : R.fz (.ro 1 l) = .ro 1 l := rfl
@[simp] theorem e_fzf1 (l : List (List PD)) : R.fz (.fr 1 l) = .im (PyData.list (l.map fun u => PyData.list u)) := by
  rw [← dat_two l]
  rfl
@[simp] theorem e_imr1 (l : List (List PD)) : R.isIm (.ro 1 l) = false := rfl
@[simp] theorem e_imf1 (l : List (List PD)) : R.isIm (.fr 1 l) = false := rfl
@[simp] theorem e_flf1 (l : List (List PD)) : R.flat (.fr 1 l) = (l.all fun u => u.all lf) := rfl
@[simp] theorem e_enf1 (l : List (List PD)) : entOf (.fr 1 l) = some (.ow 1 l) := rfl
@[simp] theorem e_vd1 (i : Nat) (l : List (List PD)) : varE (some (.ow 1 l)) = .ok (.ro 1 l) := rfl
@[simp] theorem e_rv1 (i : Nat) (l : List (List PD)) : retE (some (.ow 1 l)) = .rt (.fr 1 l) := rfl
@[simp] theorem e_datr2 (l : List (List (List PD))) : R.dat (.ro 2 l) = PyData.list (l.map fun u => PyData.list (u.map fun w => PyData.list w)) := dat_three l
@[simp] theorem e_datf2 (l : List (List (List PD))) : R.dat (.fr 2 l) = PyData.list (l.map fun u => PyData.list (u.map fun w => PyData.list w)) := dat_three l
@[simp] theorem e_fzr2 (l : List (List (List PD))) : R.fz (.ro 2 l) = .ro 2 l := rfl
@[simp] theorem e_fzf2 (l : List (List (List PD))) : R.fz (.fr 2 l) = .im (PyData.list (l.map fun u => PyData.list (u.map fun w => PyData.list w))) := by
  rw [← dat_three l]
  rfl
@[simp] theorem e_imr2 (l : List (List (List PD))) : R.isIm (.ro 2 l) = false := rfl
@[simp] theorem e_imf2 (l : List (List (List PD))) : R.isIm (.fr 2 l) = false := rfl
@[simp] theorem e_flf2 (l : List (List (List PD))) : R.flat (.fr 2 l) = (l.all fun u => u.all fun w => w.all lf) := rfl
@[simp] theorem e_enf2 (l : List (List (List PD))) : entOf (.fr 2 l) = some (.ow 2 l) := rfl
@[simp] theorem e_vd2 (i : Nat) (l : List (List (List PD))) : varE (some (.ow 2 l)) = .ok (.ro 2 l) := rfl
@[simp] theorem e_rv2 (i : Nat) (l : List (List (List PD))) : retE (some (.ow 2 l)) = .rt (.fr 2 l) := rfl
/-! ### equal, shaped -/
theorem noDs_ints (ns : List Int) : noDs (ns.map PyData.int) = true := by
  induction ns with
  | nil => rfl
  | cons n ns ih => simp [noDs, noD, ih]
theorem canLay_ints (ns : List Int) : PyData.canLayAll0 (ns.map PyData.int) = true := by
  induction ns with
  | nil => rfl
  | cons n ns ih => simp [PyData.canLayAll0, PyData.canLay0, ih]
theorem depth_ints (ns : List Int) : PyData.depthAll (ns.map PyData.int) = 0 := by
  induction ns with
  | nil => rfl
  | cons n ns ih => simp [PyData.depthAll, PyData.depth, ih]
theorem shp_int (i : Int) : shp (.int i) = true := by simp [shp, noD, SeqAt.shaped, PyData.canLay0, PyData.depth]
theorem shp_bool (i : Bool) : shp (.bool i) = true := by simp [shp, noD, SeqAt.shaped, PyData.canLay0, PyData.depth]
theorem shp_none : shp .none = true := by simp [shp, noD, SeqAt.shaped, PyData.canLay0, PyData.depth]
theorem shp_L1 (ns : List Int) : shp (L1 ns) = true := by simp [shp, noD, SeqAt.shaped, PyData.canLay0, PyData.depth, noDs_ints, canLay_ints, depth_ints]
theorem noDs_LL (rs : List (List Int)) : noDs (rs.map fun ns => L1 ns) = true := by
  induction rs with
  | nil => rfl
  | cons n ns ih => simp [noDs, noD, noDs_ints, ih]
theorem canLay_LL (rs : List (List Int)) : PyData.canLayAll0 (rs.map fun ns => L1 ns) = true := by
  induction rs with
  | nil => rfl
  | cons n ns ih => simp [PyData.canLayAll0, PyData.canLay0, canLay_ints, ih]
theorem depth_LL (rs : List (List Int)) : PyData.depthAll (rs.map fun ns => L1 ns) ≤ 1 := by
  induction rs with
  | nil => simp [PyData.depthAll]
  | cons n ns ih => simp [PyData.depthAll, PyData.depth, depth_ints] at ih ⊢; omega
theorem shp_LL (rs : List (List Int)) : shp (LL rs) = true := by
  have h := depth_LL rs
  simp only [L1] at h
  simp [shp, noD, SeqAt.shaped, PyData.canLay0, PyData.depth, noDs_LL, canLay_LL]
  omega
theorem eqv_int (i j : Int) : PyData.eqv (.int i) (.int j) = decide (i = j) := by simp [PyData.eqv]; rfl
theorem eqv_ints : ∀ (a b : List Int), PyData.eqvAll (a.map PyData.int) (b.map PyData.int) = decide (a = b)
  | [], [] => by simp [PyData.eqvAll]
  | [], _ :: _ => by simp [PyData.eqvAll]
  | _ :: _, [] => by simp [PyData.eqvAll]
  | x :: xs, y :: ys => by simp [PyData.eqvAll, eqv_int, eqv_ints xs ys]
theorem eqv_L1 (a b : List Int) : PyData.eqv (L1 a) (L1 b) = decide (a = b) := by simp [PyData.eqv, eqv_ints]
theorem eqv_LLs : ∀ (a b : List (List Int)), PyData.eqvAll (a.map fun ns => L1 ns) (b.map fun ns => L1 ns) = decide (a = b)
  | [], [] => by simp [PyData.eqvAll]
  | [], _ :: _ => by simp [PyData.eqvAll]
  | _ :: _, [] => by simp [PyData.eqvAll]
  | x :: xs, y :: ys => by
    have := eqv_L1 x y
    simp [PyData.eqvAll, eqv_LLs xs ys]
    simp [L1] at this
    rw [this]
theorem eqv_LL (a b : List (List Int)) : PyData.eqv (LL a) (LL b) = decide (a = b) := by simp only [PyData.eqv, eqv_LLs]
@[simp] theorem eqF_int (i j : Int) : eqF (.int i) (.int j) = some (.bool (decide (i = j))) := by simp [eqF, shp_int, eqv_int]
@[simp] theorem neF_int (i j : Int) : neF (.int i) (.int j) = some (.bool (!decide (i = j))) := by simp [neF, shp_int, eqv_int]
@[simp] theorem eqF_L1 (i j : List Int) : eqF (L1 i) (L1 j) = some (.bool (decide (i = j))) := by simp only [eqF, shp_L1, eqv_L1]; simp
@[simp] theorem neF_L1 (i j : List Int) : neF (L1 i) (L1 j) = some (.bool (!decide (i = j))) := by simp only [neF, shp_L1, eqv_L1]; simp
@[simp] theorem eqF_LL (i j : List (List Int)) : eqF (LL i) (LL j) = some (.bool (decide (i = j))) := by simp only [eqF, shp_LL, eqv_LL]; simp
@[simp] theorem neF_LL (i j : List (List Int)) : neF (LL i) (LL j) = some (.bool (!decide (i = j))) := by simp only [neF, shp_LL, eqv_LL]; simp
theorem mulI_r (i j : Int) (h : -1000000 ≤ j ∧ j ≤ 1000000) : mulI (.int i) (.int j) = some (.int (i * j)) := by
  have : (-(2 ^ 64) < i ∧ i < 2 ^ 64) ∨ (-(2 ^ 64) < j ∧ j < 2 ^ 64) := .inr (by omega)
  exact if_pos this
theorem mulI_l (i j : Int) (h : -1000000 ≤ i ∧ i ≤ 1000000) : mulI (.int i) (.int j) = some (.int (i * j)) := by
  have : (-(2 ^ 64) < i ∧ i < 2 ^ 64) ∨ (-(2 ^ 64) < j ∧ j < 2 ^ 64) := .inl (by omega)
  exact if_pos this
@[simp] theorem mulI_n (i : Nat) (j : Int) (h : i ≤ 1000000) : mulI (.int i) (.int j) = some (.int (i * j)) := mulI_l _ _ (by omega)
@[simp] theorem mulI_c1 (j : Int) : mulI (.int 7919) (.int j) = some (.int (7919 * j)) := mulI_l _ _ (by omega)
@[simp] theorem mulI_c2 (i : Int) : mulI (.int i) (.int 48271) = some (.int (i * 48271)) := mulI_r _ _ (by omega)
/-! ### outcomes -/
@[simp] theorem bind_ok {α β : Type} (a : α) (f : α → Out β) : (Out.ok a).bind f = f a := rfl
@[simp] theorem bind_ex {α β : Type} (a : String) (f : α → Out β) : (Out.ex a).bind f = .ex a := rfl
@[simp] theorem bind_st {α β : Type} (f : α → Out β) : (Out.st).bind f = .st := rfl
@[simp] theorem noX_ok {α : Type} (a : α) : noX (Out.ok a) = .ok a := rfl
@[simp] theorem noX_st {α : Type} : noX (Out.st : Out α) = .st := rfl
@[simp] theorem noX_ex {α : Type} (c : String) : noX (Out.ex c : Out α) = .st := rfl
@[simp] theorem bindS_ok (a : R) (k : R → SO) : bindS (.ok a) k = k a := rfl
@[simp] theorem bindS_ex (a : String) (k : R → SO) : bindS (.ex a) k = .ex a := rfl
@[simp] theorem bindS_st (k : R → SO) : bindS .st k = .st := rfl
@[simp] theorem bindQ_ok (a : List Nat) (k : List Nat → SO) : bindQ (.ok a) k = k a := rfl
/-! ### statements, one ahead of the rest -/
@[simp] theorem seq_asg (i : Nat) (e : ED) (B : SD) (ρ : Env) : seqD (asgD i e) B ρ = bindS (e ρ) fun r => match entOf r with
    | some n => B (ρ.set i n)
    | none => .st := by
  unfold seqD asgD bindS
  cases e ρ with
  | ok r => cases h : entOf r <;> simp only [h]
  | ex c => rfl
  | st => rfl
@[simp] theorem seq_expr (e : ED) (B : SD) (ρ : Env) : seqD (exprD e) B ρ = bindS (e ρ) fun _ => B ρ := by
  unfold seqD exprD bindS
  cases e ρ <;> rfl
@[simp] theorem seq_if (t : TD) (a b B : SD) (ρ : Env) : seqD (ifD t a b) B ρ = match t ρ with
    | .ok true => seqD a B ρ
    | .ok false => seqD b B ρ
    | .ex c => .ex c
    | .st => .st := by
  unfold seqD ifD
  cases t ρ with
  | ok c => cases c <;> rfl
  | ex c => rfl
  | st => rfl
@[simp] theorem un_asg (i : Nat) (e : ED) (ρ : Env) : asgD i e ρ = bindS (e ρ) fun r => match entOf r with
    | some n => .nx (ρ.set i n)
    | none => .st := rfl
@[simp] theorem un_expr (e : ED) (ρ : Env) : exprD e ρ = bindS (e ρ) fun _ => .nx ρ := rfl
@[simp] theorem kit1 : kitB "int" "int" = some true := by decide +kernel
@[simp] theorem kit2 : kitB "int" "bool" = some false := by decide +kernel
@[simp] theorem kit3 : kitB "list" "list" = some true := by decide +kernel
@[simp] theorem kit4 : kitB "tuple" "tuple" = some true := by decide +kernel
@[simp] theorem seq_nx (B : SD) (ρ : Env) : seqD (fun ρ => .nx ρ) B ρ = B ρ := rfl
@[simp] theorem seq_rt (r : R) (B : SD) (ρ : Env) : seqD (fun _ => .rt r) B ρ = .rt r := rfl
@[simp] theorem seq_ex (c : String) (B : SD) (ρ : Env) : seqD (fun _ => .ex c) B ρ = .ex c := rfl
@[simp] theorem seq_ct (B : SD) (ρ : Env) : seqD (fun ρ => .ct ρ) B ρ = .ct ρ := rfl
@[simp] theorem seq_bk (B : SD) (ρ : Env) : seqD (fun ρ => .bk ρ) B ρ = .bk ρ := rfl
@[simp] theorem seq_ret (e : ED) (B : SD) (ρ : Env) : seqD (retD e) B ρ = retD e ρ := by
  unfold seqD retD bindS
  cases e ρ with
  | ok r => cases r <;> rfl
  | ex c => rfl
  | st => rfl
@[simp] theorem seq_seq (a b B : SD) (ρ : Env) : seqD (seqD a b) B ρ = seqD a (seqD b B) ρ := by
  unfold seqD
  cases a ρ <;> rfl
theorem seq_of {a B : SD} {ρ ρ' : Env} (h : a ρ = .nx ρ') : seqD a B ρ = B ρ' := by unfold seqD; rw [h]
@[simp] theorem if_eq (t : TD) (a b : SD) (ρ : Env) : ifD t a b ρ = match t ρ with
    | .ok true => a ρ
    | .ok false => b ρ
    | .ex c => .ex c
    | .st => .st := by
  unfold ifD
  cases t ρ with
  | ok c => cases c <;> rfl
  | ex c => rfl
  | st => rfl
@[simp] theorem seq_app (i : Nat) (q : QD) (e : ED) (B : SD) (ρ : Env) : seqD (appD i q e) B ρ = match appD i q e ρ with
    | .nx ρ' => B ρ'
    | o => o := rfl
@[simp] theorem seq_appV (i : Nat) (q : QD) (j : Nat) (B : SD) (ρ : Env) : seqD (appVD i q j) B ρ = match appVD i q j ρ with
    | .nx ρ' => B ρ'
    | o => o := rfl
@[simp] theorem seq_set (i : Nat) (q : QD) (x e : ED) (B : SD) (ρ : Env) : seqD (setD i q x e) B ρ = match setD i q x e ρ with
    | .nx ρ' => B ρ'
    | o => o := rfl
/-- an entry with one more -/
def addE : Ent → R → Option Ent
  | .ow n l, .im d => (apF d n (Ty.ks l)).map fun l' => .ow n l'
  | .ow n l, .fr m t => (apN m t n (Ty.ks l)).map fun l' => .ow n l'
  | _, _ => none
@[simp] theorem addE_0 (l : List PD) (d : PD) (h : l.length ≤ 100000) : addE (.ow 0 l) (.im d) = some (.ow 0 (l ++ [d])) := by
  show (apF d 0 (Ty.ks l)).map (fun l' => Ent.ow 0 l') = _
  have : apF d 0 (Ty.ks (show Ty 1 from l)) = some (l ++ [d]) := if_pos h
  rw [this]
  rfl
@[simp] theorem addE_1 (l : List (List PD)) (t : List PD) (h : l.length ≤ 100000) : addE (.ow 1 l) (.fr 0 t) = some (.ow 1 (l ++ [t])) := by
  show (apN 0 t 1 (Ty.ks l)).map (fun l' => Ent.ow 1 l') = _
  have : apN 0 t 1 (Ty.ks (show Ty 2 from l)) = some (l ++ [t]) := by
    unfold apN
    simp only [dite_true]
    exact if_pos h
  rw [this]
  rfl
@[simp] theorem app_own (i : Nat) (e : ED) (ρ : Env) : appD i (ownQ i) e ρ = match ρ[i]? with
    | some en => bindS (noX (e ρ)) fun r => match addE en r with
      | some en' => .nx (ρ.set i en')
      | none => .st
    | none => .st := by
  unfold appD ownQ
  cases h : ρ[i]? with
  | none => rfl
  | some en =>
    cases en with
    | no =>
      cases e ρ <;> simp [bindQ, bindS, noX, addE]
    | im d =>
      cases e ρ <;> simp [bindQ, bindS, noX, addE]
    | vv v =>
      cases e ρ <;> simp [bindQ, bindS, noX, addE]
    | ob a C fs =>
      cases e ρ <;> simp [bindQ, bindS, noX, addE]
    | ow n t =>
      simp only [bindQ]
      cases e ρ with
      | ex c => rfl
      | st => rfl
      | ok r =>
        simp only [noX, bindS]
        cases r with
        | ro m u => rfl
        | im d =>
          simp only [apR, upE, h, addE, modP]
          cases apF d n (Ty.ks t) <;> rfl
        | fr m u =>
          simp only [apR, upE, h, addE, modP]
          cases apN m u n (Ty.ks t) <;> rfl
@[simp] theorem app_move (i j : Nat) (ρ : Env) (h : i ≠ j) : appVD i (ownQ i) j ρ = match ρ[i]? with
    | some en => (match ρ[j]? with
      | some (.im d) => (match addE en (.im d) with
        | some en' => .nx (ρ.set i en')
        | none => .st)
      | some (.ow n t) => (match addE en (.fr n t) with
        | some en' => .nx ((ρ.set j .no).set i en')
        | none => .st)
      | _ => .st)
    | none => .st := by
  unfold appVD ownQ
  cases e : ρ[i]? with
  | none => rfl
  | some en =>
    cases en with
    | no => simp only [bindQ]; cases ρ[j]? with
      | none => rfl
      | some x => cases x <;> rfl
    | im d => simp only [bindQ]; cases ρ[j]? with
      | none => rfl
      | some x => cases x <;> rfl
    | vv v => simp only [bindQ]; cases ρ[j]? with
      | none => rfl
      | some x => cases x <;> rfl
    | ob a C fs => simp only [bindQ]; cases ρ[j]? with
      | none => rfl
      | some x => cases x <;> rfl
    | ow n t =>
      simp only [bindQ]
      cases e2 : ρ[j]? with
      | none => rfl
      | some x =>
        cases x with
        | no => rfl
        | vv v => rfl
        | ob a C fs => rfl
        | im d =>
          simp only [upE, e, addE, modP]
          cases apF d n (Ty.ks t) <;> rfl
        | ow m u =>
          have e3 : (ρ.set j .no)[i]? = some (.ow n t) := by rw [List.getElem?_set_ne (Ne.symm h)]; exact e
          simp only [upE, e3, addE, modP]
          cases apN m u n (Ty.ks t) <;> rfl
theorem modP_cons (f : LF) (n : Nat) (l : Ty (n + 2)) (j : Nat) (r : List Nat) (u : Ty (n + 1)) (h : (Ty.ks l)[j]? = some u) : modP f (n + 1) l (j :: r) = (modP f n u r).map fun u' => (Ty.ks l).set j u' := by
  show (match (Ty.ks l)[j]? with
    | some u => match modP f n u r with
      | some u' => some ((Ty.ks l).set j u')
      | none => none
    | none => none) = _
  rw [h]
  show (match modP f n u r with
      | some u' => some ((Ty.ks l).set j u')
      | none => none) = _
  cases modP f n u r <;> rfl
theorem app_ix {i : Nat} {ρ : Env} {l : List (List PD)} {k : Nat} {d : PD} {e2 e : ED} {u : List PD} (h1 : ρ[i]? = some (.ow 1 l)) (h2 : e2 ρ = .ok (.im (.int k))) (h3 : e ρ = .ok (.im d)) (h4 : l[k]? = some u) (h5 : u.length ≤ 100000) :
    appD i (ixQ i (ownQ i) e2) e ρ = .nx (ρ.set i (.ow 1 (l.set k (u ++ [d])))) := by
  have hk : k < l.length := by
    rcases Nat.lt_or_ge k l.length with h | h
    · exact h
    · rw [List.getElem?_eq_none h] at h4; cases h4
  have e1 : lenP 1 l [] = some l.length := rfl
  have e3 : ixN l.length (k : Int) = some k := by
    unfold ixN
    rw [if_pos (by omega), if_pos (by omega)]
    rfl
  have e4 : modP (apF d) 1 l [k] = some (l.set k (u ++ [d])) := by
    have : modP (apF d) 0 u [] = some (u ++ [d]) := by
      show apF d 0 u = _
      exact if_pos h5
    rw [modP_cons (apF d) 0 l k [] u h4, this]
    rfl
  unfold appD ixQ ownQ
  simp only [h1, h2, h3, bind_ok, R.dat, e1, e3, bindQ_ok, noX_ok, bindS_ok, apR, upE, List.nil_append]
  rw [e4]
theorem map_eraseIdx : ∀ (l : List Int) (k : Nat), (T1 l).eraseIdx k = T1 (l.eraseIdx k)
  | [], _ => rfl
  | _ :: _, 0 => rfl
  | a :: l, k + 1 => by
    show PyData.int a :: (T1 l).eraseIdx k = PyData.int a :: T1 (l.eraseIdx k)
    rw [map_eraseIdx l k]
theorem pop_perm : ∀ (l : List Int) (k : Nat) (h : k < l.length), (l[k] :: l.eraseIdx k).Perm l
  | a :: l, 0, _ => List.Perm.refl _
  | a :: l, k + 1, h => by
    have hk : k < l.length := by simpa using h
    have ih := pop_perm l k hk
    show (l[k] :: a :: l.eraseIdx k).Perm (a :: l)
    exact (List.Perm.swap _ _ _).trans (ih.cons a)
theorem app_pop {o i : Nat} {e : ED} {ρ : Env} {left found : List Int} {k : Nat} (h1 : ρ[i]? = some (.ow 0 (T1 left))) (h2 : ρ[o]? = some (.ow 0 (T1 found))) (h3 : o ≠ i) (h4 : e ρ = .ok (.im (.int k))) (h5 : k < left.length) (h6 : left.length ≤ 100000) (h7 : found.length ≤ 100000) :
    appPopD o i e ρ = .nx ((ρ.set i (.ow 0 (T1 (left.eraseIdx k)))).set o (.ow 0 (T1 (found ++ [left[k]])))) := by
  have l1 : (T1 left).length = left.length := by simp
  have e3 : ixN left.length (k : Int) = some k := by
    unfold ixN
    rw [if_pos (by omega), if_pos (by omega)]
    rfl
  have e4 : (T1 left)[k]? = some (.int left[k]) := by simp [h5]
  have e5 : (T1 left).eraseIdx k = T1 (left.eraseIdx k) := map_eraseIdx left k
  have e1 : popAt ρ i (.im (.int k)) = some (k, .int left[k], T1 (left.eraseIdx k)) := by
    unfold popAt
    rw [h1]
    show (if (T1 left).length ≤ 100000 then (match ixN (T1 left).length (k : Int) with
      | some j => (match (T1 left)[j]? with
        | some d => some (j, d, (T1 left).eraseIdx j)
        | none => none)
      | none => none) else none) = _
    rw [l1, if_pos h6, e3]
    show (match (T1 left)[k]? with
      | some d => some (k, d, (T1 left).eraseIdx k)
      | none => none) = _
    rw [e4, e5]
  unfold appPopD
  simp only [h4, noX_ok, bindS_ok, e1]
  have e2 : (ρ.set i (.ow 0 (T1 (left.eraseIdx k))))[o]? = some (.ow 0 (T1 found)) := by rw [List.getElem?_set_ne (Ne.symm h3)]; exact h2
  rw [e2]
  have c : List.length (α := Ty 0) (T1 found) ≤ 100000 ∧ o ≠ i := ⟨by rw [show List.length (α := Ty 0) (T1 found) = found.length from by show List.length (T1 found) = _; simp]; exact h7, h3⟩
  show (if _ then _ else _) = _
  rw [if_pos c]
  have : (T1 found) ++ [PyData.int left[k]] = T1 (found ++ [left[k]]) := by simp [T1]
  rw [← this]
/-! ### loops -/
theorem forL_inv {b : Tg} {body : SD} (I : Nat → Env → Prop) : ∀ (ds : List PD) (k : Nat) (ρ : Env), I k ρ →
    (∀ (i : Nat) (h : i < ds.length) (ρ : Env), I (k + i) ρ → ∃ ρ1, bindT b ds[i] ρ = some ρ1 ∧ ∃ ρ2, (body ρ1 = .nx ρ2 ∨ body ρ1 = .ct ρ2) ∧ I (k + i + 1) ρ2) →
    ∃ ρ', forL b body ds ρ = .nx ρ' ∧ I (k + ds.length) ρ'
  | [], k, ρ, h0, _ => ⟨ρ, rfl, h0⟩
  | d :: ds, k, ρ, h0, st => by
    obtain ⟨ρ1, e1, ρ2, e2, h2⟩ := st 0 (by simp) ρ h0
    obtain ⟨ρ', e3, h3⟩ := forL_inv I ds (k + 1) ρ2 h2 fun i h ρ hI => by
      obtain ⟨ρ1, e1, ρ2, e2, h2⟩ := st (i + 1) (by simpa using h) ρ (by simpa [Nat.add_assoc, Nat.add_comm 1] using hI)
      refine ⟨ρ1, by simpa using e1, ρ2, e2, ?_⟩
      have : k + 1 + i + 1 = k + (i + 1) + 1 := by omega
      rw [this]
      exact h2
    refine ⟨ρ', ?_, ?_⟩
    · simp only [List.getElem_cons_zero] at e1
      unfold forL
      rw [e1]
      rcases e2 with e2 | e2
      · simp only [e2]; exact e3
      · simp only [e2]; exact e3
    · have : k + 1 + ds.length = k + (d :: ds).length := by simp; omega
      rw [← this]
      exact h3
theorem for_ex {s : LD} {b : Tg} {body : SD} {ρ : Env} {ds : List PD} (I : Nat → Env → Prop) (hs : s ρ = .ok ds) (h0 : I 0 ρ)
    (st : ∀ (i : Nat) (h : i < ds.length) (ρ : Env), I i ρ → ∃ ρ1, bindT b ds[i] ρ = some ρ1 ∧ ∃ ρ2, (body ρ1 = .nx ρ2 ∨ body ρ1 = .ct ρ2) ∧ I (i + 1) ρ2) :
    ∃ ρ', forD s b body ρ = .nx ρ' ∧ I ds.length ρ' := by
  unfold forD
  rw [hs]
  obtain ⟨ρ', e, h⟩ := forL_inv I ds 0 ρ h0 fun i h ρ hI => by
    obtain ⟨ρ1, e1, ρ2, e2, h2⟩ := st i h ρ (by simpa using hI)
    exact ⟨ρ1, e1, ρ2, e2, by simpa using h2⟩
  exact ⟨ρ', e, by simpa using h⟩
theorem seq_for {s : LD} {b : Tg} {body B : SD} {ρ : Env} {ds : List PD} {o : SO} (I : Nat → Env → Prop) (hs : s ρ = .ok ds) (h0 : I 0 ρ)
    (st : ∀ (i : Nat) (h : i < ds.length) (ρ : Env), I i ρ → ∃ ρ1, bindT b ds[i] ρ = some ρ1 ∧ ∃ ρ2, (body ρ1 = .nx ρ2 ∨ body ρ1 = .ct ρ2) ∧ I (i + 1) ρ2)
    (k : ∀ ρ', I ds.length ρ' → B ρ' = o) : seqD (forD s b body) B ρ = o := by
  obtain ⟨ρ', e, h⟩ := for_ex I hs h0 st
  rw [seq_of e]
  exact k ρ' h
theorem lcL_eq {k : Tg} {t : TD} {e : ED} {ρ : Env} (p : PD → Bool) (g : PD → PD) : ∀ (ds : List PD),
    (∀ d ∈ ds, ∃ ρ1, bindT k d ρ = some ρ1 ∧ t ρ1 = .ok (p d) ∧ (p d = true → ∃ r, e ρ1 = .ok r ∧ r.fz = .im (g d))) → lcL k t e ρ ds = .ok ((ds.filter p).map g)
  | [], _ => rfl
  | d :: ds, h => by
    obtain ⟨ρ1, e1, e2, e3⟩ := h d List.mem_cons_self
    have ih := lcL_eq p g ds fun d hd => h d (List.mem_cons_of_mem _ hd)
    unfold lcL
    rw [e1]
    simp only [e2, noX_ok, bind_ok]
    by_cases c : p d = true
    · obtain ⟨r, e4, e5⟩ := e3 c
      simp only [c, if_true, e4, noX_ok, bind_ok, e5, ih]
      simp [c]
    · simp only [c, ih]
      simp [c]
theorem lcD_all {s : LD} {vs : List Nat} {k : Tg} {e : ED} {ρ : Env} {α : Type} (xs : List α) (c : α → PD) (g : α → PD) (hs : s ρ = .ok (xs.map c)) (hl : xs.length ≤ 100000)
    (h : ∀ x ∈ xs, ∃ ρ1, bindT k (c x) (wipeE ρ vs) = some ρ1 ∧ ∃ r, e ρ1 = .ok r ∧ r.fz = .im (g x)) : lcD s vs k yesT e ρ = .ok (.fr 0 (@List.map α PD g xs)) := by
  unfold lcD
  rw [hs]
  have : lcL k yesT e (wipeE ρ vs) (xs.map c) = .ok (xs.map g) := by
    clear hs hl
    induction xs with
    | nil => rfl
    | cons x xs ih =>
      obtain ⟨ρ1, e1, r, e2, e3⟩ := h x List.mem_cons_self
      simp only [List.map_cons]
      unfold lcL
      rw [e1]
      simp only [yesT, noX_ok, bind_ok, if_true, e2, e3, ih fun x hx => h x (List.mem_cons_of_mem _ hx)]
  rw [bind_ok, this, bind_ok, if_pos (by simpa using hl)]
theorem lcD_im {s : LD} {vs : List Nat} {k : Tg} {e : ED} {ρ : Env} {α : Type} (xs : List α) (c : α → PD) (g : α → PD) (hs : s ρ = .ok (xs.map c)) (hl : xs.length ≤ 100000)
    (h : ∀ x ∈ xs, ∃ ρ1, bindT k (c x) (wipeE ρ vs) = some ρ1 ∧ e ρ1 = .ok (.im (g x))) : lcD s vs k yesT e ρ = .ok (.fr 0 (@List.map α PD g xs)) :=
  lcD_all xs c g hs hl fun x hx => let ⟨ρ1, e1, e2⟩ := h x hx; ⟨ρ1, e1, _, e2, rfl⟩
theorem lcFD_all {s : LD} {n : Nat} {vs : List Nat} {k : Tg} {e : ED} {ρ : Env} {α : Type} (xs : List α) (c : α → PD) (g : α → Ty (n + 1)) (hs : s ρ = .ok (xs.map c)) (hl : xs.length ≤ 100000)
    (h : ∀ x ∈ xs, ∃ ρ1, bindT k (c x) (wipeE ρ vs) = some ρ1 ∧ e ρ1 = .ok (.fr n (g x))) : lcFD n s vs k yesT e ρ = .ok (.fr (n + 1) (xs.map g)) := by
  unfold lcFD
  rw [hs]
  have : lcLF n k yesT e (wipeE ρ vs) (xs.map c) = .ok (xs.map g) := by
    clear hs hl
    induction xs with
    | nil => rfl
    | cons x xs ih =>
      obtain ⟨ρ1, e1, e2⟩ := h x List.mem_cons_self
      simp only [List.map_cons]
      unfold lcLF
      rw [e1]
      simp only [yesT, noX_ok, bind_ok, if_true, e2, R.asFr, ih fun x hx => h x (List.mem_cons_of_mem _ hx)]
      simp
  rw [bind_ok, this, noX_ok, bind_ok, if_pos (by simpa using hl)]
theorem den_rt {m n : Nat} {d : SD} {ds : List PD} {r : R} (h : d (ds.map Ent.im ++ List.replicate (m - n) Ent.no) = .rt r) : denF m n d ds = .ok r := by unfold denF; rw [h]
theorem den_nx {m n : Nat} {d : SD} {ds : List PD} {ρ : Env} (h : d (ds.map Ent.im ++ List.replicate (m - n) Ent.no) = .nx ρ) : denF m n d ds = .ok (.im .none) := by unfold denF; rw [h]
theorem den_ex {m n : Nat} {d : SD} {ds : List PD} {c : String} (h : d (ds.map Ent.im ++ List.replicate (m - n) Ent.no) = .ex c) : denF m n d ds = .ex c := by unfold denF; rw [h]
theorem lcL_im {k : Tg} {e : ED} {ρ : Env} {α : Type} (xs : List α) (c : α → PD) (g : α → PD)
    (h : ∀ x ∈ xs, ∃ ρ1, bindT k (c x) ρ = some ρ1 ∧ e ρ1 = .ok (.im (g x))) : lcL k yesT e ρ (xs.map c) = .ok (xs.map g) := by
  induction xs with
  | nil => rfl
  | cons x xs ih =>
    obtain ⟨ρ1, e1, e2⟩ := h x List.mem_cons_self
    simp only [List.map_cons]
    unfold lcL
    rw [e1]
    simp only [yesT, noX_ok, bind_ok, if_true, e2, R.fz, ih fun x hx => h x (List.mem_cons_of_mem _ hx)]
theorem lc2D_im {s s2 : LD} {vs vs1 : List Nat} {k1 k2 : Tg} {e : ED} {ρ : Env} {α β : Type} (xs : List α) (c : α → PD) (ys : α → List β) (c2 : α → β → PD) (g : α → β → PD) (hs : s ρ = .ok (xs.map c)) (hl : (xs.flatMap fun x => (ys x).map (g x)).length ≤ 100000)
    (h : ∀ x ∈ xs, ∃ ρ1, bindT k1 (c x) (wipeE ρ vs) = some ρ1 ∧ s2 ρ1 = .ok ((ys x).map (c2 x)) ∧ ∀ y ∈ ys x, ∃ ρ2, bindT k2 (c2 x y) (wipeE ρ1 vs1) = some ρ2 ∧ e ρ2 = .ok (.im (g x y))) :
    lc2D s vs k1 yesT s2 vs1 k2 yesT e ρ = .ok (.fr 0 (@List.flatMap α PD (fun x => (ys x).map (g x)) xs)) := by
  unfold lc2D
  rw [hs]
  have : lc2L k1 yesT s2 k2 yesT e vs1 (wipeE ρ vs) (xs.map c) = .ok (xs.flatMap fun x => (ys x).map (g x)) := by
    clear hs hl
    induction xs with
    | nil => rfl
    | cons x xs ih =>
      obtain ⟨ρ1, e1, e2, e3⟩ := h x List.mem_cons_self
      simp only [List.map_cons]
      unfold lc2L
      rw [e1]
      have e4 := lcL_im (k := k2) (e := e) (ρ := wipeE ρ1 vs1) (ys x) (c2 x) (g x) e3
      simp only [yesT, noX_ok, bind_ok, if_true, e2]
      rw [e4]
      simp only [bind_ok, ih fun x hx => h x (List.mem_cons_of_mem _ hx)]
      rfl
  rw [bind_ok, this, noX_ok, bind_ok, if_pos hl]
/-- what a def answers -/
def fin : SO → Out R
  | .nx _ => .ok (.im .none)
  | .rt r => .ok r
  | .rv r _ => .ok r
  | .ex c => .ex c
  | .ev c _ => .ex c
  | _ => .st
theorem den_eq (m n : Nat) (d : SD) (ds : List PD) : denF m n d ds = fin (d (ds.map Ent.im ++ List.replicate (m - n) Ent.no)) := by
  unfold denF fin
  cases d (ds.map Ent.im ++ List.replicate (m - n) Ent.no) <;> rfl
@[simp] theorem fin_nx (ρ : Env) : fin (.nx ρ) = .ok (.im .none) := rfl
@[simp] theorem fin_rt (r : R) : fin (.rt r) = .ok r := rfl
@[simp] theorem fin_ex (c : String) : fin (.ex c) = .ex c := rfl
@[simp] theorem fin_rv (r : R) (ρ : Env) : fin (.rv r ρ) = .ok r := rfl
@[simp] theorem fin_ev (c : String) (ρ : Env) : fin (.ev c ρ) = .ex c := rfl
/-- one turn of a loop -/
def Stp (J : Env → Prop) (o : SO) : Prop := ∃ ρ, (o = .nx ρ ∨ o = .ct ρ) ∧ J ρ
theorem stp_nx {J : Env → Prop} {ρ : Env} : J ρ → Stp J (.nx ρ) := fun h => ⟨ρ, .inl rfl, h⟩
theorem stp_ct {J : Env → Prop} {ρ : Env} : J ρ → Stp J (.ct ρ) := fun h => ⟨ρ, .inr rfl, h⟩
theorem for_nm {α : Type} (I : Nat → Env → Prop) (xs : List α) (c : α → PD) {s : LD} {j : Nat} {body : SD} {ρ : Env} (hs : s ρ = .ok (xs.map c)) (h0 : I 0 ρ)
    (st : ∀ (i : Nat) (h : i < xs.length) (ρ : Env), I i ρ → Stp (I (i + 1)) (body (ρ.set j (.im (c xs[i]))))) : ∃ ρ', forD s (.nm j) body ρ = .nx ρ' ∧ I xs.length ρ' := by
  have h := for_ex (b := .nm j) (body := body) I hs h0 fun i h ρ hI => by
    obtain ⟨ρ2, e2, h2⟩ := st i (by simpa using h) ρ hI
    exact ⟨_, rfl, ρ2, by simpa using e2, h2⟩
  simpa using h
theorem fin_for {α : Type} (I : Nat → Env → Prop) (xs : List α) (c : α → PD) {s : LD} {j : Nat} {body B : SD} {ρ : Env} {o : Out R} (hs : s ρ = .ok (xs.map c)) (h0 : I 0 ρ)
    (st : ∀ (i : Nat) (h : i < xs.length) (ρ : Env), I i ρ → Stp (I (i + 1)) (body (ρ.set j (.im (c xs[i])))))
    (k : ∀ ρ', I xs.length ρ' → fin (B ρ') = o) : fin (seqD (forD s (.nm j) body) B ρ) = o := by
  obtain ⟨ρ', e, h⟩ := for_nm I xs c hs h0 st
  rw [seq_of e]
  exact k ρ' h
theorem fin_forE {α : Type} (I : Nat → Env → Prop) (xs : List α) (c : α → PD) {s : LD} {j : Nat} {body : SD} {ρ : Env} (hs : s ρ = .ok (xs.map c)) (h0 : I 0 ρ)
    (st : ∀ (i : Nat) (h : i < xs.length) (ρ : Env), I i ρ → Stp (I (i + 1)) (body (ρ.set j (.im (c xs[i]))))) : fin (forD s (.nm j) body ρ) = .ok (.im .none) := by
  obtain ⟨ρ', e, h⟩ := for_nm I xs c hs h0 st
  rw [e]
  rfl
theorem stp_for {α : Type} {J : Env → Prop} (I : Nat → Env → Prop) (xs : List α) (c : α → PD) {s : LD} {j : Nat} {body B : SD} {ρ : Env} (hs : s ρ = .ok (xs.map c)) (h0 : I 0 ρ)
    (st : ∀ (i : Nat) (h : i < xs.length) (ρ : Env), I i ρ → Stp (I (i + 1)) (body (ρ.set j (.im (c xs[i])))))
    (k : ∀ ρ', I xs.length ρ' → Stp J (B ρ')) : Stp J (seqD (forD s (.nm j) body) B ρ) := by
  obtain ⟨ρ', e, h⟩ := for_nm I xs c hs h0 st
  rw [seq_of e]
  exact k ρ' h
theorem stp_forE {α : Type} {J : Env → Prop} (I : Nat → Env → Prop) (xs : List α) (c : α → PD) {s : LD} {j : Nat} {body : SD} {ρ : Env} (hs : s ρ = .ok (xs.map c)) (h0 : I 0 ρ)
    (st : ∀ (i : Nat) (h : i < xs.length) (ρ : Env), I i ρ → Stp (I (i + 1)) (body (ρ.set j (.im (c xs[i])))))
    (k : ∀ ρ', I xs.length ρ' → J ρ') : Stp J (forD s (.nm j) body ρ) := by
  obtain ⟨ρ', e, h⟩ := for_nm I xs c hs h0 st
  rw [e]
  exact stp_nx (k ρ' h)
/-! over range(n) -/
@[simp] theorem rg_all (n : Nat) : (rangeL 0 (n : Int)).map PyData.int = (List.range n).map fun (i : Nat) => PyData.int (i : Int) := by
  unfold rangeL
  simp
/-! ### no int twice -/
theorem step_has (ks : List Int) (a : Int) (h : a ∉ ks) : PyProof.Rows.step_dedup ks a = ks ++ [a] := by
  have c : (ks.any fun x => x == a) = false := by
    rw [List.any_eq_false]
    intro x hx e
    have e' : x = a := by simpa using e
    exact h (e' ▸ hx)
  unfold PyProof.Rows.step_dedup
  rw [c]
  rfl
theorem ddL_from : ∀ (l ks : List Int), (ks ++ l).Nodup → l.foldl PyProof.Rows.step_dedup ks = ks ++ l
  | [], ks, _ => by simp
  | a :: l, ks, h => by
    have h1 : a ∉ ks := by
      have := (List.nodup_append.mp h).2.2
      intro hk
      exact this a hk a (by simp) rfl
    rw [List.foldl_cons, step_has ks a h1, ddL_from l (ks ++ [a]) (by simpa using h)]
    simp
theorem ddL_nodup (l : List Int) (h : l.Nodup) : ddL l = l := by
  have := ddL_from l [] (by simpa using h)
  simpa [ddL] using this
theorem sortI_self (l : List Int) (h : l.Pairwise (· < ·)) : sortI l = l :=
  (sortI_unique (List.Perm.refl l) (h.imp fun h => Int.le_of_lt h)).symm
/-! ### places in lists -/
theorem atI_nat {α : Type} (xs : List α) (i : Int) (h0 : 0 ≤ i) (h : i < xs.length) : atI xs i = xs[i.toNat]? := by
  unfold atI ixN
  simp [h0, h]
theorem ixN_nat (n : Nat) (i : Int) (h0 : 0 ≤ i) (h : i < n) : ixN n i = some i.toNat := by
  unfold ixN
  simp [h0, h]
theorem rangeL_len (n : Int) : (rangeL 0 n).length = n.toNat := by simp [rangeL]
theorem rangeL_get (n : Int) (i : Nat) (h : i < (rangeL 0 n).length) : (rangeL 0 n)[i] = (i : Int) := by simp [rangeL]
theorem rangeL_eq (n : Nat) : rangeL 0 (n : Int) = (List.range n).map fun (i : Nat) => (i : Int) := by simp [rangeL]
end Z

/-! ## M2 -/
set_option Elab.async false
set_option linter.all false
set_option maxRecDepth 100000
set_option maxHeartbeats 1000000
namespace Z
open PySem PySem.Spec PyProof.Rows L2
/-! ### loops over pairs -/
theorem for_tp {α : Type} (I : Nat → Env → Prop) (xs : List α) (c1 c2 : α → PD) {s : LD} {j1 j2 : Nat} {body : SD} {ρ : Env} (hs : s ρ = .ok (xs.map fun x => .tuple [c1 x, c2 x])) (h0 : I 0 ρ)
    (st : ∀ (i : Nat) (h : i < xs.length) (ρ : Env), I i ρ → Stp (I (i + 1)) (body ((ρ.set j1 (.im (c1 xs[i]))).set j2 (.im (c2 xs[i]))))) : ∃ ρ', forD s (.tp [j1, j2]) body ρ = .nx ρ' ∧ I xs.length ρ' := by
  have h := for_ex (b := .tp [j1, j2]) (body := body) I hs h0 fun i h ρ hI => by
    obtain ⟨ρ2, e2, h2⟩ := st i (by simpa using h) ρ hI
    refine ⟨_, ?_, ρ2, e2, h2⟩
    simp [bindT, setAll]
  simpa using h
theorem fin_forT {α : Type} (I : Nat → Env → Prop) (xs : List α) (c1 c2 : α → PD) {s : LD} {j1 j2 : Nat} {body B : SD} {ρ : Env} {o : Out R} (hs : s ρ = .ok (xs.map fun x => .tuple [c1 x, c2 x])) (h0 : I 0 ρ)
    (st : ∀ (i : Nat) (h : i < xs.length) (ρ : Env), I i ρ → Stp (I (i + 1)) (body ((ρ.set j1 (.im (c1 xs[i]))).set j2 (.im (c2 xs[i])))))
    (k : ∀ ρ', I xs.length ρ' → fin (B ρ') = o) : fin (seqD (forD s (.tp [j1, j2]) body) B ρ) = o := by
  obtain ⟨ρ', e, h⟩ := for_tp I xs c1 c2 hs h0 st
  rw [seq_of e]
  exact k ρ' h
theorem stp_forTE {α : Type} {J : Env → Prop} (I : Nat → Env → Prop) (xs : List α) (c1 c2 : α → PD) {s : LD} {j1 j2 : Nat} {body : SD} {ρ : Env} (hs : s ρ = .ok (xs.map fun x => .tuple [c1 x, c2 x])) (h0 : I 0 ρ)
    (st : ∀ (i : Nat) (h : i < xs.length) (ρ : Env), I i ρ → Stp (I (i + 1)) (body ((ρ.set j1 (.im (c1 xs[i]))).set j2 (.im (c2 xs[i])))))
    (k : ∀ ρ', I xs.length ρ' → J ρ') : Stp J (forD s (.tp [j1, j2]) body ρ) := by
  obtain ⟨ρ', e, h⟩ := for_tp I xs c1 c2 hs h0 st
  rw [e]
  exact stp_nx (k ρ' h)
/-! ### loops that may be left by one answer -/
theorem for_all {α : Type} {b : Tg} (I : Env → Prop) (c : α → PD) (bd : α → Env → Env) (p : α → Bool) (r : R) {s : LD} {body : SD} (hb : ∀ x ρ, bindT b (c x) ρ = some (bd x ρ)) : ∀ (xs : List α) (ρ : Env), I ρ →
    (∀ x ∈ xs, ∀ ρ, I ρ → (p x = true → Stp I (body (bd x ρ))) ∧ (p x = false → body (bd x ρ) = .rt r)) →
    (xs.all p = true → ∃ ρ', forL b body (xs.map c) ρ = .nx ρ' ∧ I ρ') ∧ (xs.all p = false → forL b body (xs.map c) ρ = .rt r)
  | [], ρ, h0, _ => ⟨fun _ => ⟨ρ, rfl, h0⟩, fun h => by simp at h⟩
  | x :: xs, ρ, h0, st => by
    have h1 := st x List.mem_cons_self ρ h0
    simp only [List.map_cons, List.all_cons]
    unfold forL
    rw [hb]
    cases hp : p x with
    | true =>
      obtain ⟨ρ2, e2, h2⟩ := h1.1 hp
      have ih := for_all I c bd p r (s := s) (body := body) hb xs ρ2 h2 fun y hy => st y (List.mem_cons_of_mem _ hy)
      rcases e2 with e2 | e2
      · simp only [e2, Bool.true_and]; exact ih
      · simp only [e2, Bool.true_and]; exact ih
    | false =>
      refine ⟨fun h => by simp at h, fun _ => ?_⟩
      simp only [h1.2 hp]
theorem fin_all {α : Type} {b : Tg} (I : Env → Prop) (xs : List α) (c : α → PD) (bd : α → Env → Env) (p : α → Bool) (r : R) {s : LD} {body B : SD} {ρ : Env} {o : Out R} (hb : ∀ x ρ, bindT b (c x) ρ = some (bd x ρ)) (hs : s ρ = .ok (xs.map c)) (h0 : I ρ)
    (st : ∀ x ∈ xs, ∀ ρ, I ρ → (p x = true → Stp I (body (bd x ρ))) ∧ (p x = false → body (bd x ρ) = .rt r)) (k : ∀ ρ', I ρ' → fin (B ρ') = o) :
    fin (seqD (forD s b body) B ρ) = if xs.all p then o else .ok r := by
  have h := for_all (s := s) I c bd p r hb xs ρ h0 st
  unfold seqD forD
  rw [hs]
  cases e : xs.all p with
  | true =>
    obtain ⟨ρ', e1, h1⟩ := h.1 e
    simp only [e1, if_true]
    exact k ρ' h1
  | false =>
    simp only [h.2 e]
    rfl
/-! ### pairs of numbers -/
abbrev PP (p : Nat × Nat) : PD := .tuple [.int (p.1 : Nat), .int (p.2 : Nat)]
theorem enumP_LL (rs : List (List Int)) : enumP (rs.map fun ns => L1 ns) = (List.range rs.length).map fun (i : Nat) => PyData.tuple [.int (i : Nat), L1 (rs.getD i [])] := by
  apply List.ext_getElem
  · simp [enumP]
  · intro i h1 h2
    have hi : i < rs.length := by simpa using h2
    simp [enumP, List.getD_eq_getElem?_getD, hi]
@[simp] theorem un_en (e : ED) (ρ : Env) : enD e ρ = (itD e ρ).bind fun ds => .ok (enumP ds) := rfl
@[simp] theorem ixF_ro2 (l : List (List (List PD))) (i : Int) : ixF (.ro 2 l) i = (atI l i).map fun (u : List (List PD)) => R.ro 1 u := rfl
@[simp] theorem kit5 : kitB "bool" "bool" = some true := by decide +kernel
@[simp] theorem kit6 : kitB "bool" "int" = some true := by decide +kernel
theorem eqv_bool (i j : Bool) : PyData.eqv (.bool i) (.bool j) = decide (i = j) := by cases i <;> cases j <;> rfl
@[simp] theorem eqF_bool (i j : Bool) : eqF (.bool i) (.bool j) = some (.bool (decide (i = j))) := by simp only [eqF, shp_bool, eqv_bool]; rfl
@[simp] theorem neF_bool (i j : Bool) : neF (.bool i) (.bool j) = some (.bool (!decide (i = j))) := by simp only [neF, shp_bool, eqv_bool]; rfl
/-! ### [a, b] of tables -/
def joinF (n : Nat) (r1 r2 : R) : Out R := match r1.asFr n, r2.asFr n with
  | some a, some b => .ok (.fr (n + 1) [a, b])
  | _, _ => .st
@[simp] theorem un_lstF2 (n : Nat) (e1 e2 : ED) (ρ : Env) : lstF2 n e1 e2 ρ = (e1 ρ).bind fun r1 => (e2 ρ).bind fun r2 => joinF n r1 r2 := rfl
@[simp] theorem join_1 (a b : List (List PD)) : joinF 1 (.fr 1 a) (.fr 1 b) = .ok (.fr 2 (@List.cons (List (List PD)) a [b])) := rfl
def joinR (n : Nat) (rs : List R) : Out R := match ros n rs with
  | some ts => if rs.length ≤ 100000 then .ok (.ro (n + 1) ts) else .st
  | none => .st
@[simp] theorem un_lstR (n : Nat) (a : AD) (ρ : Env) : lstRD n a ρ = (a ρ).bind fun rs => joinR n rs := rfl
@[simp] theorem joinR_1 (a b : List (List PD)) : joinR 1 [.ro 1 a, .ro 1 b] = .ok (.ro 2 (@List.cons (List (List PD)) a [b])) := rfl
theorem shp_2 (a b : List (List Int)) : shp (.list [LL a, LL b]) = true := by
  have h1 := shp_LL a
  have h2 := shp_LL b
  have d1 := depth_LL a
  have d2 := depth_LL b
  simp only [shp, SeqAt.shaped, Bool.and_eq_true, decide_eq_true_eq] at h1 h2 ⊢
  simp only [noD, noDs, PyData.canLay0, PyData.canLayAll0, PyData.depth, PyData.depthAll, Bool.and_eq_true] at h1 h2 ⊢
  refine ⟨⟨h1.1, h2.1, trivial⟩, ⟨h1.2.1, h2.2.1, trivial⟩, ?_⟩
  omega
theorem eqv_2 (a b c d : List (List Int)) : PyData.eqv (.list [LL a, LL b]) (.list [LL c, LL d]) = (decide (a = c) && decide (b = d)) := by
  have h1 := eqv_LL a c
  have h2 := eqv_LL b d
  simp only [PyData.eqv, PyData.eqvAll] at h1 h2 ⊢
  rw [h1, h2, Bool.and_true]
@[simp] theorem neF_2 (a b c d : List (List Int)) : neF (.list [LL a, LL b]) (.list [LL c, LL d]) = some (.bool (!(decide (a = c) && decide (b = d)))) := by
  simp only [neF, shp_2, eqv_2]
  rfl
@[simp] theorem eqF_2 (a b c d : List (List Int)) : eqF (.list [LL a, LL b]) (.list [LL c, LL d]) = some (.bool (decide (a = c) && decide (b = d))) := by
  simp only [eqF, shp_2, eqv_2]
  rfl
theorem ixQ_ok {i n : Nat} {q : QD} {e : ED} {ρ : Env} {p : List Nat} {t : Ty (n + 1)} {l k : Nat} (hq : q ρ = .ok p) (h1 : ρ[i]? = some (.ow n t)) (h2 : e ρ = .ok (.im (.int (k : Nat)))) (hl : lenP n t p = some l) (hk : k < l) : ixQ i q e ρ = .ok (p ++ [k]) := by
  have e3 : ixN l (k : Int) = some k := by
    unfold ixN
    rw [if_pos (by omega), if_pos (by omega)]
    rfl
  unfold ixQ
  rw [hq, bind_ok, h2, bind_ok]
  simp only [e_dat1, h1, hl, e3]
/-- a cell of the first of two tables -/
theorem set_cell {i : Nat} {ρ : Env} {A B : List (List PD)} {k j : Nat} {u : List PD} {d : PD} {e2 ix e : ED} (h1 : ρ[i]? = some (.ow 2 (@List.cons (List (List PD)) A [B]))) (h2 : e2 ρ = .ok (.im (.int k))) (h3 : A[k]? = some u) (h4 : ix ρ = .ok (.im (.int j))) (h5 : j < u.length) (h6 : e ρ = .ok (.im d)) :
    setD i (ixQ i (ixQ i (ownQ i) (cD (.int 0))) e2) ix e ρ = .nx (ρ.set i (.ow 2 (@List.cons (List (List PD)) (A.set k (u.set j d)) [B]))) := by
  have hk : k < A.length := by
    rcases Nat.lt_or_ge k A.length with h | h
    · exact h
    · rw [List.getElem?_eq_none h] at h3; cases h3
  have q0 : ownQ i ρ = .ok [] := by unfold ownQ; rw [h1]
  have q1 : ixQ i (ownQ i) (cD (.int 0)) ρ = .ok [0] := ixQ_ok (k := 0) q0 h1 rfl (show lenP 2 (@List.cons (List (List PD)) A [B]) [] = some 2 from rfl) (by omega)
  have q2 : ixQ i (ixQ i (ownQ i) (cD (.int 0))) e2 ρ = .ok [0, k] := ixQ_ok q1 h1 h2 (show lenP 2 (@List.cons (List (List PD)) A [B]) [0] = some A.length from rfl) hk
  have e4 : modP (stF (j : Int) d) 2 (@List.cons (List (List PD)) A [B]) [0, k] = some (@List.cons (List (List PD)) (A.set k (u.set j d)) [B]) := by
    have m0 : modP (stF (j : Int) d) 0 u [] = some (u.set j d) := by
      show (ixN u.length (j : Int)).map (fun j => u.set j d) = _
      unfold ixN
      rw [if_pos (by omega), if_pos (by omega)]
      rfl
    have m1 := modP_cons (stF (j : Int) d) 0 A k [] u h3
    rw [m0] at m1
    have m2 := modP_cons (stF (j : Int) d) 1 (@List.cons (List (List PD)) A [B]) 0 [k] A rfl
    refine m2.trans ?_
    rw [m1]
    rfl
  unfold setD
  simp only [h6, bindS_ok, q2, bindQ_ok, h4, e_dat1, stR, upE, h1]
  rw [e4]
/-! ### slices -/
@[simp] theorem un_noO (ρ : Env) : noO ρ = .ok none := rfl
@[simp] theorem un_soO (a : ED) (ρ : Env) : soO a ρ = (a ρ).bind fun r => match r.dat with
  | .int i => .ok (some i)
  | _ => .st := rfl
@[simp] theorem un_sl (a : ED) (l u : OD) (ρ : Env) : slD a l u ρ = (a ρ).bind fun r => (l ρ).bind fun lo => (u ρ).bind fun hi => match kidsS r.fz with
  | some ds => .ok (.fr 0 (@cutL PD ds lo hi))
  | none => .st := rfl
@[simp] theorem cut_1 {α : Type} (xs : List α) : cutL xs (some 1) none = xs.drop 1 := by
  have e : HT.sIx xs.length 0 (some (1 : Int)) = min 1 xs.length := HT.sIx_nat _ _ 1
  unfold cutL
  rw [e, HT.sIx_none]
  cases xs with
  | nil => rfl
  | cons a b =>
    have : min 1 (a :: b).length = 1 := by simp
    rw [this]
    simp
theorem cut_last {α : Type} (xs : List α) (a : α) : cutL (xs ++ [a]) none (some (-1)) = xs := by
  have e : HT.sIx (xs ++ [a]).length (xs ++ [a]).length (some (-1 : Int)) = xs.length := by
    show (if (-1 : Int) < 0 then ((-1 : Int) + ((xs ++ [a]).length : Nat)).toNat else min (-1 : Int).toNat (xs ++ [a]).length) = _
    rw [if_pos (by omega)]
    simp
    omega
  unfold cutL
  rw [e, HT.sIx_none]
  simp
/-- a row of the second of two tables -/
theorem set_row {i : Nat} {ρ : Env} {A B : List (List PD)} {k : Nat} {u : List PD} {ix e : ED} (h1 : ρ[i]? = some (.ow 2 (@List.cons (List (List PD)) A [B]))) (h4 : ix ρ = .ok (.im (.int k))) (h5 : k < B.length) (h6 : e ρ = .ok (.fr 0 u)) :
    setD i (ixQ i (ownQ i) (cD (.int 1))) ix e ρ = .nx (ρ.set i (.ow 2 (@List.cons (List (List PD)) A [B.set k u]))) := by
  have q0 : ownQ i ρ = .ok [] := by unfold ownQ; rw [h1]
  have q1 : ixQ i (ownQ i) (cD (.int 1)) ρ = .ok [1] := ixQ_ok (k := 1) q0 h1 rfl (show lenP 2 (@List.cons (List (List PD)) A [B]) [] = some 2 from rfl) (by omega)
  have e4 : modP (stN (k : Int) 0 u) 2 (@List.cons (List (List PD)) A [B]) [1] = some (@List.cons (List (List PD)) A [B.set k u]) := by
    have m0 : modP (stN (k : Int) 0 u) 1 B [] = some (B.set k u) := by
      show stN (k : Int) 0 u 1 B = _
      unfold stN
      simp only [dite_true]
      show (ixN B.length (k : Int)).map (fun j => B.set j u) = _
      unfold ixN
      rw [if_pos (by omega), if_pos (by omega)]
      rfl
    have m2 := modP_cons (stN (k : Int) 0 u) 1 (@List.cons (List (List PD)) A [B]) 1 [] B rfl
    refine m2.trans ?_
    rw [m0]
    rfl
  unfold setD
  simp only [h6, bindS_ok, q1, bindQ_ok, h4, e_dat1, stR, upE, h1]
  rw [e4]
/-! ### lists of pairs, compared -/
theorem noDs_pp (ps : List (Nat × Nat)) : noDs (ps.map PP) = true := by
  induction ps with
  | nil => rfl
  | cons n ns ih => simp [noDs, noD] at ih ⊢; exact ih
theorem canLay_pp (ps : List (Nat × Nat)) : PyData.canLayAll0 (ps.map PP) = true := by
  induction ps with
  | nil => rfl
  | cons n ns ih => simp [PyData.canLayAll0, PyData.canLay0] at ih ⊢; exact ih
theorem depth_pp (ps : List (Nat × Nat)) : PyData.depthAll (ps.map PP) ≤ 1 := by
  induction ps with
  | nil => simp [PyData.depthAll]
  | cons n ns ih => simp [PyData.depthAll, PyData.depth] at ih ⊢; omega
theorem shp_pp (ps : List (Nat × Nat)) : shp (.list (ps.map PP)) = true := by
  have h := depth_pp ps
  have h2 : PyData.depthAll (ps.map PP) + 1 ≤ 64 := by omega
  simp only [shp, noD, SeqAt.shaped, PyData.canLay0, PyData.depth, noDs_pp, canLay_pp, Bool.true_and, h2, decide_true]
theorem eqv_pps : ∀ (a b : List (Nat × Nat)), PyData.eqvAll (a.map PP) (b.map PP) = decide (a = b)
  | [], [] => by simp [PyData.eqvAll]
  | [], _ :: _ => by simp [PyData.eqvAll]
  | _ :: _, [] => by simp [PyData.eqvAll]
  | x :: xs, y :: ys => by
    have ih := eqv_pps xs ys
    simp only [List.map_cons, PyData.eqvAll, ih]
    have h1 : PyData.eqv (PP x) (PP y) = decide (x = y) := by
      obtain ⟨a, b⟩ := x
      obtain ⟨c, d⟩ := y
      simp only [PP, PyData.eqv, PyData.eqvAll, Bool.and_true]
      by_cases h1 : a = c <;> by_cases h2 : b = d <;> simp [h1, h2] <;> omega
    rw [h1]
    by_cases h1 : x = y <;> by_cases h2 : xs = ys <;> simp [h1, h2]
@[simp] theorem neF_pp (a b : List (Nat × Nat)) : neF (.list (a.map PP)) (.list (b.map PP)) = some (.bool (!decide (a = b))) := by
  simp only [neF, shp_pp, PyData.eqv, eqv_pps]
  rfl
@[simp] theorem eqF_pp (a b : List (Nat × Nat)) : eqF (.list (a.map PP)) (.list (b.map PP)) = some (.bool (decide (a = b))) := by
  simp only [eqF, shp_pp, PyData.eqv, eqv_pps]
  rfl
@[simp] theorem lf_tuple (ds : List PD) : lf (.tuple ds) = lfs ds := by simp [lf]
@[simp] theorem lfs_nil : lfs [] = true := by simp [lfs]
@[simp] theorem lfs_cons (d : PD) (ds : List PD) : lfs (d :: ds) = (lf d && lfs ds) := by simp [lfs]
@[simp] theorem all_pp (ps : List (Nat × Nat)) : (ps.map PP).all lf = true := by
  rw [List.all_eq_true]
  intro d hd
  obtain ⟨p, _, rfl⟩ := List.mem_map.mp hd
  simp [lf, lfs]
@[simp] theorem neF_none : neF .none .none = some (.bool false) := by
  simp only [neF, shp_none]
  rfl
end Z

/-! ## M3 -/
set_option Elab.async false
set_option linter.all false
set_option maxRecDepth 100000
set_option maxHeartbeats 1000000
namespace Z
open PySem PySem.Spec PyProof.Rows L2
/-! ### numbers of heirs -/
abbrev TN (l : List Nat) : List PD := l.map fun (k : Nat) => PyData.int (k : Int)
abbrev LN (l : List Nat) : PD := .list (TN l)
theorem TN_eq (l : List Nat) : TN l = T1 (l.map fun (k : Nat) => (k : Int)) := by simp [TN, T1]
/-! ### a pair among pairs -/
theorem shp_PP (p : Nat × Nat) : shp (PP p) = true := by
  simp [shp, noD, noDs, SeqAt.shaped, PyData.canLay0, PyData.canLayAll0, PyData.depth, PyData.depthAll]
theorem eqv_PP (x y : Nat × Nat) : PyData.eqv (PP x) (PP y) = decide (x = y) := by
  obtain ⟨a, b⟩ := x
  obtain ⟨c, d⟩ := y
  simp only [PP, PyData.eqv, PyData.eqvAll, Bool.and_true]
  by_cases h1 : a = c <;> by_cases h2 : b = d <;> simp [h1, h2] <;> omega
theorem inF_pp (p : Nat × Nat) (ps : List (Nat × Nat)) : inF (PP p) (.list (ps.map PP)) = some (.bool (decide (p ∈ ps))) := by
  unfold inF
  simp only [shp_PP, shp_pp, Bool.and_self, if_true]
  congr 2
  rw [List.any_map]
  induction ps with
  | nil => simp
  | cons q qs ih =>
    simp only [List.any_cons, fcomp] at ih ⊢
    rw [ih, eqv_PP]
    by_cases h1 : q = p <;> by_cases h2 : p ∈ qs <;> simp [h1, h2]
    intro h
    exact h1 h.symm
/-! ### the first that .. is answered -/
theorem for_find {α : Type} {b : Tg} (I : Env → Prop) (c : α → PD) (bd : α → Env → Env) (p : α → Bool) (r : α → R) {body : SD} (hb : ∀ x ρ, bindT b (c x) ρ = some (bd x ρ)) : ∀ (xs : List α) (ρ : Env), I ρ →
    (∀ x ∈ xs, ∀ ρ, I ρ → (p x = false → Stp I (body (bd x ρ))) ∧ (p x = true → body (bd x ρ) = .rt (r x))) →
    match xs.find? p with
    | some x => forL b body (xs.map c) ρ = .rt (r x)
    | none => ∃ ρ', forL b body (xs.map c) ρ = .nx ρ' ∧ I ρ'
  | [], ρ, h0, _ => ⟨ρ, rfl, h0⟩
  | x :: xs, ρ, h0, st => by
    have h1 := st x List.mem_cons_self ρ h0
    simp only [List.map_cons, List.find?_cons]
    unfold forL
    rw [hb]
    cases hp : p x with
    | false =>
      obtain ⟨ρ2, e2, h2⟩ := h1.1 hp
      have ih := for_find I c bd p r (body := body) hb xs ρ2 h2 fun y hy => st y (List.mem_cons_of_mem _ hy)
      rcases e2 with e2 | e2
      · simp only [e2]; exact ih
      · simp only [e2]; exact ih
    | true => simp only [h1.2 hp]
theorem fin_find {α : Type} {b : Tg} (I : Env → Prop) (xs : List α) (c : α → PD) (bd : α → Env → Env) (p : α → Bool) (r : α → R) {s : LD} {body B : SD} {ρ : Env} {o : Out R} (hb : ∀ x ρ, bindT b (c x) ρ = some (bd x ρ)) (hs : s ρ = .ok (xs.map c)) (h0 : I ρ)
    (st : ∀ x ∈ xs, ∀ ρ, I ρ → (p x = false → Stp I (body (bd x ρ))) ∧ (p x = true → body (bd x ρ) = .rt (r x))) (k : ∀ ρ', I ρ' → fin (B ρ') = o) :
    fin (seqD (forD s b body) B ρ) = match xs.find? p with
      | some x => .ok (r x)
      | none => o := by
  have h := for_find I c bd p r hb xs ρ h0 st
  unfold seqD forD
  rw [hs]
  cases e : xs.find? p with
  | none =>
    rw [e] at h
    obtain ⟨ρ', e1, h1⟩ := h
    simp only [e1]
    exact k ρ' h1
  | some x =>
    rw [e] at h
    simp only [h]
    rfl
/-! ### a while by a number that falls -/
theorem while_inv {t : TD} {body : SD} (I : Nat → Env → Prop) (Done : Env → Prop) (st : ∀ k ρ, I k ρ → (t ρ = .ok false ∧ Done ρ) ∨ (∃ j, k = j + 1 ∧ t ρ = .ok true ∧ Stp (I j) (body ρ))) : ∀ (k N : Nat) (ρ : Env), k < N → I k ρ → ∃ ρ', whileN t body N ρ = .nx ρ' ∧ Done ρ'
  | k, 0, _, h, _ => absurd h (Nat.not_lt_zero k)
  | k, N + 1, ρ, h, hI => by
    unfold whileN
    rcases st k ρ hI with ⟨e, d⟩ | ⟨j, ej, e, ρ2, e2, h2⟩
    · rw [e]
      exact ⟨ρ, rfl, d⟩
    · rw [e]
      have ih := while_inv I Done st j N ρ2 (by omega) h2
      rcases e2 with e2 | e2
      · simp only [e2]; exact ih
      · simp only [e2]; exact ih
@[simp] theorem seq_rem (i : Nat) (e : ED) (B : SD) (ρ : Env) : seqD (remD i e) B ρ = match remD i e ρ with
    | .nx ρ' => B ρ'
    | o => o := rfl
theorem erase_cast : ∀ (l : List Nat) (x : Nat), (l.map fun (k : Nat) => (k : Int)).erase (x : Int) = (l.erase x).map fun (k : Nat) => (k : Int)
  | [], _ => rfl
  | a :: l, x => by
    by_cases h : a = x
    · subst h
      simp
    · have h2 : ¬((a : Int) = x) := by omega
      rw [List.map_cons, List.erase_cons_tail (by simpa using h2), List.erase_cons_tail (by simpa using h), List.map_cons, erase_cast l x]
theorem rem_nat {i : Nat} {ρ : Env} {l : List Nat} {x : Nat} {e : ED} (h1 : ρ[i]? = some (.ow 0 (TN l))) (h2 : e ρ = .ok (.im (.int (x : Nat)))) (h3 : x ∈ l) : remD i e ρ = .nx (ρ.set i (.ow 0 (TN (l.erase x)))) := by
  have e1 : intsOf (TN l) = some (l.map fun (k : Nat) => (k : Int)) := intsOf_mapf _ l
  have m : (x : Int) ∈ (l.map fun (k : Nat) => (k : Int)) := List.mem_map_of_mem h3
  unfold remD
  simp only [h2, noX_ok, bindS_ok, e_dat1, h1]
  have e2 : (match intsOf (TN l) with
    | some ns => if (x : Int) ∈ ns then SO.nx (ρ.set i (.ow 0 (@List.map Int PD PyData.int (ns.erase (x : Int))))) else .st
    | none => .st) = .nx (ρ.set i (.ow 0 (TN (l.erase x)))) := by
    rw [e1]
    simp only [m, if_true, erase_cast]
    rw [TN_eq]
  exact e2
theorem lcD_filt {s : LD} {vs : List Nat} {k : Tg} {t : TD} {e : ED} {ρ : Env} {α : Type} (xs : List α) (c g : α → PD) (p : α → Bool) (hs : s ρ = .ok (xs.map c)) (hl : xs.length ≤ 100000)
    (h : ∀ x ∈ xs, ∃ ρ1, bindT k (c x) (wipeE ρ vs) = some ρ1 ∧ t ρ1 = .ok (p x) ∧ (p x = true → e ρ1 = .ok (.im (g x)))) : lcD s vs k t e ρ = .ok (.fr 0 (@List.map α PD g (xs.filter p))) := by
  unfold lcD
  rw [hs]
  have : lcL k t e (wipeE ρ vs) (xs.map c) = .ok ((xs.filter p).map g) := by
    clear hs hl
    induction xs with
    | nil => rfl
    | cons x xs ih =>
      obtain ⟨ρ1, e1, e2, e3⟩ := h x List.mem_cons_self
      have ih' := ih fun x hx => h x (List.mem_cons_of_mem _ hx)
      simp only [List.map_cons]
      unfold lcL
      rw [e1]
      cases c : p x with
      | true => simp only [e2, c, noX_ok, bind_ok, if_true, e3 c, e_fz1, ih', List.filter_cons_of_pos, List.map_cons]
      | false => simp only [e2, c, noX_ok, bind_ok, Bool.false_eq_true, if_false, ih', List.filter_cons, List.map_cons]
  have len : ((xs.filter p).map g).length ≤ 100000 := by
    rw [List.length_map]
    exact Nat.le_trans (List.length_filter_le _ _) hl
  rw [bind_ok, this, bind_ok, if_pos len]
theorem shp_LN (l : List Nat) : shp (.list (TN l)) = true := by
  rw [TN_eq]
  exact shp_L1 _
theorem any_int (l : List Nat) (h : Nat) : ((TN l).any fun z => PyData.eqv z (.int (h : Int))) = decide (h ∈ l) := by
  induction l with
  | nil => simp
  | cons a l ih =>
    simp only [TN, List.map_cons, List.any_cons] at ih ⊢
    rw [ih, eqv_int]
    by_cases h1 : a = h
    · subst h1; simp
    · have h2 : ¬((a : Int) = h) := by omega
      have h3 : ¬h = a := fun e => h1 e.symm
      simp [h2, h3]
theorem niF_nat (l : List Nat) (h : Nat) : niF (.int (h : Int)) (.list (TN l)) = some (.bool (!decide (h ∈ l))) := by
  unfold niF
  simp only [shp_int, shp_LN, Bool.and_self, if_true, any_int]
theorem inF_nat (l : List Nat) (h : Nat) : inF (.int (h : Int)) (.list (TN l)) = some (.bool (decide (h ∈ l))) := by
  unfold inF
  simp only [shp_int, shp_LN, Bool.and_self, if_true, any_int]
theorem index_nat (l : List Nat) (h : Nat) (hm : h ∈ l) : indexF (TN l) (.int (h : Int)) = some (.int (l.idxOf h : Nat)) := by
  have : (TN l).findIdx? (fun z => PyData.eqv z (.int (h : Int))) = some (l.idxOf h) := by
    induction l with
    | nil => cases hm
    | cons a l ih =>
      simp only [TN, List.map_cons, List.findIdx?_cons, eqv_int]
      by_cases h1 : a = h
      · subst h1; simp
      · have h2 : ¬((a : Int) = h) := by omega
        have hm' : h ∈ l := by
          rcases List.mem_cons.mp hm with e | e
          · exact absurd e.symm h1
          · exact e
        have h3 : (a == h) = false := by simpa using h1
        simp only [h2, decide_false, Bool.false_eq_true, if_false]
        have ih' := ih hm'
        simp only [TN] at ih'
        rw [ih']
        simp [List.idxOf_cons, h3]
  unfold indexF
  simp only [shp_LN, shp_int, Bool.and_self, if_true, this]
  rfl
theorem cut_from {α : Type} (xs : List α) (p : Nat) (h : p ≤ xs.length) : cutL xs (some (p : Int)) none = xs.drop p := by
  have e : HT.sIx xs.length 0 (some (p : Int)) = min p xs.length := HT.sIx_nat _ _ p
  unfold cutL
  rw [e, HT.sIx_none, Nat.min_eq_left h]
  exact List.take_of_length_le (by simp)
@[simp] theorem all_tt {α : Type} (l : List α) : (l.all fun _ => true) = true := List.all_eq_true.mpr fun _ _ => rfl
theorem neF_self (l : List Nat) : neF (.list (TN l)) (.list (TN l)) = some (.bool false) := by
  rw [TN_eq]
  have := neF_L1 (l.map fun (k : Nat) => (k : Int)) (l.map fun (k : Nat) => (k : Int))
  simpa using this
/-- a cell of an own table -/
theorem set_cell1 {i : Nat} {ρ : Env} {A : List (List PD)} {k j : Nat} {u : List PD} {d : PD} {e2 ix e : ED} (h1 : ρ[i]? = some (.ow 1 A)) (h2 : e2 ρ = .ok (.im (.int k))) (h3 : A[k]? = some u) (h4 : ix ρ = .ok (.im (.int j))) (h5 : j < u.length) (h6 : e ρ = .ok (.im d)) :
    setD i (ixQ i (ownQ i) e2) ix e ρ = .nx (ρ.set i (.ow 1 (A.set k (u.set j d)))) := by
  have hk : k < A.length := by
    rcases Nat.lt_or_ge k A.length with h | h
    · exact h
    · rw [List.getElem?_eq_none h] at h3; cases h3
  have q0 : ownQ i ρ = .ok [] := by unfold ownQ; rw [h1]
  have q1 : ixQ i (ownQ i) e2 ρ = .ok [k] := ixQ_ok q0 h1 h2 (show lenP 1 A [] = some A.length from rfl) hk
  have e4 : modP (stF (j : Int) d) 1 A [k] = some (A.set k (u.set j d)) := by
    have m0 : modP (stF (j : Int) d) 0 u [] = some (u.set j d) := by
      show (ixN u.length (j : Int)).map (fun j => u.set j d) = _
      unfold ixN
      rw [if_pos (by omega), if_pos (by omega)]
      rfl
    have m1 := modP_cons (stF (j : Int) d) 0 A k [] u h3
    rw [m0] at m1
    exact m1
  unfold setD
  simp only [h6, bindS_ok, q1, bindQ_ok, h4, e_dat1, stR, upE, h1]
  rw [e4]
end Z

/-! ## M4 -/
set_option Elab.async false
set_option linter.all false
set_option maxRecDepth 100000
set_option maxHeartbeats 1000000
namespace Z
open PySem PySem.Spec PyProof.Rows L2
/-! ### loops that may be left by one refusal -/
theorem for_anyX {α : Type} {b : Tg} (I : Env → Prop) (c : α → PD) (bd : α → Env → Env) (p : α → Bool) (x : String) {body : SD} (hb : ∀ x ρ, bindT b (c x) ρ = some (bd x ρ)) : ∀ (xs : List α) (ρ : Env), I ρ →
    (∀ y ∈ xs, ∀ ρ, I ρ → (p y = false → Stp I (body (bd y ρ))) ∧ (p y = true → body (bd y ρ) = .ex x)) →
    (xs.any p = true → forL b body (xs.map c) ρ = .ex x) ∧ (xs.any p = false → ∃ ρ', forL b body (xs.map c) ρ = .nx ρ' ∧ I ρ')
  | [], ρ, h0, _ => ⟨fun h => by simp at h, fun _ => ⟨ρ, rfl, h0⟩⟩
  | y :: xs, ρ, h0, st => by
    have h1 := st y List.mem_cons_self ρ h0
    simp only [List.map_cons, List.any_cons]
    unfold forL
    rw [hb]
    cases hp : p y with
    | false =>
      obtain ⟨ρ2, e2, h2⟩ := h1.1 hp
      have ih := for_anyX I c bd p x (body := body) hb xs ρ2 h2 fun z hz => st z (List.mem_cons_of_mem _ hz)
      rcases e2 with e2 | e2
      · simp only [e2, Bool.false_or]; exact ih
      · simp only [e2, Bool.false_or]; exact ih
    | true => exact ⟨fun _ => by simp only [h1.2 hp], fun h => by simp at h⟩
theorem fin_anyX {α : Type} {b : Tg} (I : Env → Prop) (xs : List α) (c : α → PD) (bd : α → Env → Env) (p : α → Bool) (x : String) {s : LD} {body B : SD} {ρ : Env} {o : Out R} (hb : ∀ x ρ, bindT b (c x) ρ = some (bd x ρ)) (hs : s ρ = .ok (xs.map c)) (h0 : I ρ)
    (st : ∀ y ∈ xs, ∀ ρ, I ρ → (p y = false → Stp I (body (bd y ρ))) ∧ (p y = true → body (bd y ρ) = .ex x)) (k : xs.any p = false → ∀ ρ', I ρ' → fin (B ρ') = o) :
    fin (seqD (forD s b body) B ρ) = if xs.any p then .ex x else o := by
  have h := for_anyX I c bd p x hb xs ρ h0 st
  unfold seqD forD
  rw [hs]
  cases e : xs.any p with
  | false =>
    obtain ⟨ρ', e1, h1⟩ := h.2 e
    simp only [e1, Bool.false_eq_true, if_false]
    exact k e ρ' h1
  | true =>
    simp only [h.1 e]
    rfl
theorem fin_anyXE {α : Type} {b : Tg} (I : Env → Prop) (xs : List α) (c : α → PD) (bd : α → Env → Env) (p : α → Bool) (x : String) {s : LD} {body : SD} {ρ : Env} (hb : ∀ x ρ, bindT b (c x) ρ = some (bd x ρ)) (hs : s ρ = .ok (xs.map c)) (h0 : I ρ)
    (st : ∀ y ∈ xs, ∀ ρ, I ρ → (p y = false → Stp I (body (bd y ρ))) ∧ (p y = true → body (bd y ρ) = .ex x)) :
    fin (forD s b body ρ) = if xs.any p then .ex x else .ok (.im .none) := by
  have h := for_anyX I c bd p x hb xs ρ h0 st
  unfold forD
  rw [hs]
  cases e : xs.any p with
  | false =>
    obtain ⟨ρ', e1, h1⟩ := h.2 e
    simp only [e1, Bool.false_eq_true, if_false]
    rfl
  | true =>
    simp only [h.1 e]
    rfl
/-! ### words -/
@[simp] theorem un_callX (f : List PD → Out R) (a : AX) (ρ : Env) : callX f a ρ = match a ρ with
  | .ok ds ρ' => (match f ds with
    | .ok (.im d) => .ok (.im d) ρ'
    | .ok (.fr n t) => .ok (.fr n t) ρ'
    | .ok (.ro _ _) => .st
    | .ex c => .ex c ρ'
    | .st => .st)
  | .ex c ρ' => .ex c ρ'
  | .st => .st := rfl
@[simp] theorem un_callM (f : (m : Nat) → Z.Ty (m + 1) → List PD → Out R) (j : Nat) (a : AD) (ρ : Env) : callM f j a ρ = match ρ[j]? with
  | some (.ow m t) => (match noX (a ρ) with
    | .ok rs => if rs.all R.isIm then (match f m t (rs.map R.dat) with
      | .ok (.im d) => .ok (.im d) (ρ.set j .no)
      | .ok (.fr n t) => .ok (.fr n t) (ρ.set j .no)
      | .ok (.ro _ _) => .st
      | .ex c => .ex c (ρ.set j .no)
      | .st => .st)
      else .st
    | _ => .st)
  | _ => .st := rfl
@[simp] theorem un_ifX (t : TX) (a b : SD) (ρ : Env) : ifX t a b ρ = match t ρ with
  | .ok true ρ' => a ρ'
  | .ok false ρ' => b ρ'
  | .ex c ρ' => .ev c ρ'
  | .st => .st := rfl
@[simp] theorem seq_ifX (t : TX) (a b B : SD) (ρ : Env) : seqD (ifX t a b) B ρ = match t ρ with
  | .ok true ρ' => seqD a B ρ'
  | .ok false ρ' => seqD b B ρ'
  | .ex c ρ' => .ev c ρ'
  | .st => .st := by
  unfold seqD ifX
  cases t ρ with
  | ok c ρ' => cases c <;> rfl
  | ex c ρ' => rfl
  | st => rfl
@[simp] theorem un_asgX (i : Nat) (d : EX) (ρ : Env) : asgX i d ρ = match d ρ with
  | .ok (.im d) ρ' => .nx (ρ'.set i (.im d))
  | .ok (.fr n t) ρ' => .nx (ρ'.set i (.ow n t))
  | .ok (.ro _ _) _ => .st
  | .ex c ρ' => .ev c ρ'
  | .st => .st := rfl
@[simp] theorem seq_asgX (i : Nat) (d : EX) (B : SD) (ρ : Env) : seqD (asgX i d) B ρ = match d ρ with
  | .ok (.im d) ρ' => B (ρ'.set i (.im d))
  | .ok (.fr n t) ρ' => B (ρ'.set i (.ow n t))
  | .ok (.ro _ _) _ => .st
  | .ex c ρ' => .ev c ρ'
  | .st => .st := by
  unfold seqD asgX
  cases d ρ with
  | ok r ρ' => cases r <;> rfl
  | ex c ρ' => rfl
  | st => rfl
@[simp] theorem un_retX (d : EX) (ρ : Env) : retX d ρ = match d ρ with
  | .ok r ρ' => .rv r ρ'
  | .ex c ρ' => .ev c ρ'
  | .st => .st := rfl
@[simp] theorem seq_tryD (f : List PD → Out R) (a : AD) (i : Nat) (su : String → Option (Addr → SD)) (B : SD) (ρ : Env) : seqD (tryD f a i su) B ρ = match noX (a ρ) with
  | .ok rs => if rs.all R.isIm then (match f (rs.map R.dat) with
    | .ok _ => B ρ
    | .ex c => (match su c with
      | some s => (match s 0 (ρ.set i (.vv (.ref 0))) with
        | .nx ρ' => B (ρ'.set i .no)
        | .rt r => .rt r
        | _ => .st)
      | none => .st)
    | .st => .st)
    else .st
  | _ => .st := by
  unfold seqD tryD
  cases noX (a ρ) with
  | ok rs =>
    simp only
    split
    · rename_i ρ' e
      split at e
      · rename_i c
        rw [if_pos c]
        cases e2 : f (rs.map R.dat) with
        | ok r => rw [e2] at e; cases e; rfl
        | ex c =>
          rw [e2] at e
          simp only at e ⊢
          cases e3 : su c with
          | none => rw [e3] at e; cases e
          | some s =>
            rw [e3] at e
            simp only at e ⊢
            cases e4 : s 0 (ρ.set i (.vv (.ref 0))) with
            | nx ρ2 => rw [e4] at e; cases e; rfl
            | _ => rw [e4] at e; cases e
        | st => rw [e2] at e; cases e
      · cases e
    · rename_i o ho
      by_cases c : rs.all R.isIm = true
      · rw [if_pos c] at ho ⊢
        rw [if_pos c]
        cases e2 : f (rs.map R.dat) with
        | ok r => rw [e2] at ho; exact absurd rfl (ho ρ)
        | ex c =>
          rw [e2] at ho
          simp only at ho ⊢
          cases e3 : su c with
          | none => rfl
          | some s =>
            rw [e3] at ho
            simp only at ho ⊢
            cases e4 : s 0 (ρ.set i (.vv (.ref 0))) with
            | nx ρ2 => rw [e4] at ho; exact absurd rfl (ho _)
            | _ => rfl
        | st => rfl
      · rw [if_neg c, if_neg c]
  | ex c => rfl
  | st => rfl
@[simp] theorem isED_at (a : Addr) (i : Nat) (b : Bool) (ρ : Env) (h : ρ[i]? = some (.vv (.ref a))) : isED a i b ρ = .ok (.im (.bool b)) := by
  unfold isED
  rw [h]
  simp
@[simp] theorem un_rep (a b : ED) (ρ : Env) : repD a b ρ = (a ρ).bind fun r1 => (b ρ).bind fun r2 => match kids r1.fz, r2.dat with
  | some ds, .int k => if -1000 ≤ k ∧ k ≤ 1000 ∧ ds.length ≤ 100 then .ok (.fr 0 (repL k.toNat ds)) else .st
  | _, _ => .st := rfl
theorem out_fin (o : SO) : outS o = fin o := by cases o <;> rfl
theorem denM_eq (N k : Nat) (d : SD) (m : Nat) (t : Z.Ty (m + 1)) (ds : List PD) : denM N k d m t ds = fin (d (.ow m t :: ds.map Ent.im ++ List.replicate (N - (k + 1)) Ent.no)) := out_fin _
@[simp] theorem seq_retV (i : Nat) (B : SD) (ρ : Env) : seqD (retVD i) B ρ = retVD i ρ := by
  unfold seqD retVD
  cases e : ρ[i]? with
  | none => rfl
  | some en => cases en <;> rfl
@[simp] theorem seq_frz (i : Nat) (B : SD) (ρ : Env) : seqD (frzD i) B ρ = match ρ[i]? with
  | some (.ow n t) => B (ρ.set i (.im (Ty.dat (n + 1) t)))
  | _ => B ρ := by
  unfold seqD frzD
  cases e : ρ[i]? with
  | none => rfl
  | some en => cases en <;> rfl
@[simp] theorem seq_frz1 (i : Nat) (B : SD) (ρ : Env) : seqD (frz1D i) B ρ = match ρ[i]? with
  | some (.ow (n + 1) t) => B (ρ.set i (.ow 0 (@List.map (Z.Ty (n + 1)) PD (Ty.dat (n + 1)) t)))
  | _ => B ρ := by
  unfold seqD frz1D
  cases e : ρ[i]? with
  | none => rfl
  | some en =>
    cases en with
    | ow n t => cases n <;> rfl
    | _ => rfl
theorem dat1_map (l : List (List Int)) : (@List.map (Z.Ty 1) PD (Ty.dat 1) (T2 l)) = l.map fun r => L1 r := by
  induction l with
  | nil => rfl
  | cons a l ih => exact congr (congrArg List.cons (dat_one _)) ih
theorem seq_ift {t : TD} {a b B : SD} {ρ : Env} (h : t ρ = .ok true) : seqD (ifD t a b) B ρ = seqD a B ρ := by rw [seq_if, h]
theorem seq_iff {t : TD} {a b B : SD} {ρ : Env} (h : t ρ = .ok false) : seqD (ifD t a b) B ρ = seqD b B ρ := by rw [seq_if, h]
theorem seq_rt_ {a B : SD} {ρ : Env} {r : R} (h : a ρ = .rt r) : seqD a B ρ = .rt r := by unfold seqD; rw [h]
/-! ### an item set -/
theorem set_0 {i : Nat} {ρ : Env} {L : List PD} {k : Nat} {d : PD} {ix e : ED} (h1 : ρ[i]? = some (.ow 0 L)) (h4 : ix ρ = .ok (.im (.int k))) (h5 : k < L.length) (h6 : e ρ = .ok (.im d)) :
    setD i (ownQ i) ix e ρ = .nx (ρ.set i (.ow 0 (L.set k d))) := by
  have q0 : ownQ i ρ = .ok [] := by unfold ownQ; rw [h1]
  have m0 : modP (stF (k : Int) d) 0 L [] = some (L.set k d) := by
    show (ixN L.length (k : Int)).map (fun j => L.set j d) = _
    unfold ixN
    rw [if_pos (by omega), if_pos (by omega)]
    rfl
  unfold setD
  simp only [h6, bindS_ok, q0, bindQ_ok, h4, e_dat1, stR, upE, h1]
  rw [m0]
theorem set_1 {i : Nat} {ρ : Env} {A : List (List PD)} {k : Nat} {u : List PD} {ix e : ED} (h1 : ρ[i]? = some (.ow 1 A)) (h4 : ix ρ = .ok (.im (.int k))) (h5 : k < A.length) (h6 : e ρ = .ok (.fr 0 u)) :
    setD i (ownQ i) ix e ρ = .nx (ρ.set i (.ow 1 (A.set k u))) := by
  have q0 : ownQ i ρ = .ok [] := by unfold ownQ; rw [h1]
  have m0 : modP (stN (k : Int) 0 u) 1 A [] = some (A.set k u) := by
    show stN (k : Int) 0 u 1 A = _
    unfold stN
    simp only [dite_true]
    show (ixN A.length (k : Int)).map (fun j => A.set j u) = _
    unfold ixN
    rw [if_pos (by omega), if_pos (by omega)]
    rfl
  unfold setD
  simp only [h6, bindS_ok, q0, bindQ_ok, h4, e_dat1, stR, upE, h1]
  rw [m0]
theorem set_0z {i : Nat} {ρ : Env} {L : List PD} {z : Int} {j : Nat} {d : PD} {ix e : ED} (h1 : ρ[i]? = some (.ow 0 L)) (h4 : ix ρ = .ok (.im (.int z))) (h5 : ixN L.length z = some j) (h6 : e ρ = .ok (.im d)) :
    setD i (ownQ i) ix e ρ = .nx (ρ.set i (.ow 0 (L.set j d))) := by
  have q0 : ownQ i ρ = .ok [] := by unfold ownQ; rw [h1]
  have m0 : modP (stF z d) 0 L [] = some (L.set j d) := by
    show (ixN L.length z).map (fun j => L.set j d) = _
    rw [h5]
    rfl
  unfold setD
  simp only [h6, bindS_ok, q0, bindQ_ok, h4, e_dat1, stR, upE, h1]
  rw [m0]
theorem cut_m1 {α : Type} (xs : List α) (a : α) : cutL (xs ++ [a]) (some (-1)) none = [a] := by
  have e : HT.sIx (xs ++ [a]).length 0 (some (-1 : Int)) = xs.length := by
    show (if (-1 : Int) < 0 then ((-1 : Int) + ((xs ++ [a]).length : Nat)).toNat else min (-1 : Int).toNat (xs ++ [a]).length) = _
    rw [if_pos (by omega)]
    simp
    omega
  unfold cutL
  rw [e, HT.sIx_none]
  simp
theorem cut_to {α : Type} (xs : List α) (p : Nat) (h : p ≤ xs.length) : cutL xs none (some (p : Int)) = xs.take p := by
  have e : HT.sIx xs.length xs.length (some (p : Int)) = min p xs.length := HT.sIx_nat _ _ p
  unfold cutL
  rw [e, HT.sIx_none, Nat.min_eq_left h]
  simp
/-! ### data of any kind -/
def numB (n : Int) : PD → Bool
  | .int i => decide (0 ≤ i) && decide (i < n)
  | _ => false
def listB (n : Int) : PD → Bool
  | .list ds => ds.all (numB n)
  | _ => false
def nonD : PD → Bool
  | .dict (_ :: _) => false
  | _ => true
def lnP : PD → Nat
  | .list ds => ds.length
  | _ => 0
end Z

/-! ## k15P -/
set_option Elab.async false
set_option linter.all false
set_option maxRecDepth 100000

namespace P
noncomputable section
open PySem PySem.Spec PyProof.Rows L2 Z
def topS (i : Nat) : Stmt := PySem.Challenge.pw_thingdeal_k15_whole_heirs_of_one_mind.main.body.getD i (.Pass ⟨0, 0, 0, 0⟩)
abbrev cm (K : PySem.W.Frag) : CM := fun c => .ref (He.ga K (Str.ofString c))
abbrev FnP (K : PySem.W.Frag) (x : Str) (st : Stmt) (f : Addr) (fd : FuncData) : Prop := FunD K x x (defArgs st) (defBody st) (defScope st) [] [] f fd
/-- an own exception class -/
abbrev ExF (K : PySem.W.Frag) (mg : Str → Option Value) (x : Str) : Prop := mg x = some (.ref (He.ga K x)) ∧ PySem.W.excIn K (He.ga K x) He.veBase "ValueError.__new__" = true ∧ PySem.W.keepIn K (.ref (He.ga K x)) = true ∧ PySem.W.subIn K (.ref (He.ga K x)) (.type "BaseException") = some true ∧ PySem.W.typeIn K (.ref (He.ga K x)) = some (.type "type")
/-! #### is_number_below -/
abbrev s_is_number_below : Stmt := topS 12
theorem sc_is_number_below : FnScope ["value", "limit"] ["value", "limit"] (defScope s_is_number_below) := ⟨rfl, rfl, rfl, by decide +kernel, rfl, by decide +kernel, by decide +kernel⟩
def d_is_number_below : SD :=
      (retD (andD (tyD id "int" (varD 0)) (chnD leI ltI (cD (.int 0)) (varD 0) (varD 1))))
def f_is_number_below : List PD → Out R := denF 2 2 d_is_number_below
set_option maxHeartbeats 4000000 in
theorem m_is_number_below {P : Program} {w : World} {K : PySem.W.Frag} {mg : Str → Option Value} {base : Heap}  {f : Addr} {fd : FuncData} (F : FnP K "is_number_below" s_is_number_below f fd) (h_type : mg "type" = none) (h_int : mg "int" = none) :
    FnOk P w K mg base (L2N.CX P w) 1 f fd ["value", "limit"] (SpF K (cm K) 2 f_is_number_below) :=
  fnOk_of F sc_is_number_below rfl (by decide) fun cdv A outer s H E hr => by
    exact (sb_one (ss_ret (se_and (se_ty (T := "int") (by rfl) h_type (by rfl) h_int (by decide +kernel) (se_var 0)) (se_one (se_chn op_le op_lt lk_le lk_lt se_int (se_var 0) (se_var 1))))))
/-! #### is_list_below -/
abbrev s_is_list_below : Stmt := topS 13
theorem sc_is_list_below : FnScope ["value", "limit", "item"] ["value", "limit"] (defScope s_is_list_below) := ⟨rfl, rfl, rfl, by decide +kernel, rfl, by decide +kernel, by decide +kernel⟩
def d_is_list_below : SD :=
      (retD (andD (tyD id "list" (varD 0)) (cbD allF (consA (lcD (itJ (varD 0)) [2] (.nm 2) yesT (callD f_is_number_below (consA (varD 2) (consA (varD 1) nilA)))) nilA))))
def f_is_list_below : List PD → Out R := denF 3 2 d_is_list_below
set_option maxHeartbeats 4000000 in
theorem m_is_list_below {P : Program} {w : World} {K : PySem.W.Frag} {mg : Str → Option Value} {base : Heap}  {f : Addr} {fd : FuncData} (F : FnP K "is_list_below" s_is_list_below f fd) (h_type : mg "type" = none) (h_list : mg "list" = none) (h_all : mg "all" = none) (G_is_number_below : Cal P w K mg base (cm K) "is_number_below" 1 2 ["value", "limit"] f_is_number_below) :
    FnOk P w K mg base (L2N.CX P w) 2 f fd ["value", "limit"] (SpF K (cm K) 2 f_is_list_below) :=
  fnOk_of F sc_is_list_below rfl (by decide) fun cdv A outer s H E hr => by
    exact (sb_one (ss_ret (se_and (se_ty (T := "list") (by rfl) h_type (by rfl) h_list (by decide +kernel) (se_var 0)) (se_one (se_cb (cr_all rfl) lk_all (by rfl) h_all (by decide +kernel) (sa_cons (se_lc (own := [("item", 2)]) rfl sc_is_list_below.nd (sj_list (se_var 0)) (blkOk_by (N := ["value", "limit", "item"]) (sc := defScope s_is_list_below) (by decide +kernel)) (by decide) (fun b => (sg_name 2 sc_is_list_below.nd (by first | exact Or.inl rfl | exact Or.inr rfl))) (fun b => sts_nil) (fun b => (se_cal G_is_number_below hr (by decide) passN (alen_cons (alen_cons alen_nil)) (sa_cons (se_var 2) (sa_cons (se_var 1) sa_nil))))) sa_nil))))))
/-! #### need_table -/
abbrev s_need_table : Stmt := topS 14
theorem sc_need_table : FnScope ["table", "row", "many"] ["table"] (defScope s_need_table) := ⟨rfl, rfl, rfl, by decide +kernel, rfl, by decide +kernel, by decide +kernel⟩
def d_need_table : SD :=
      (seqD (ifD (orT (tstD (tyD not "list" (varD 0))) (notT (tstD (chnD leI leI (cD (.int 1)) (cbD lenF (consA (varD 0) nilA)) (cD (.int 8)))))) (fun _ => .ex "BadTable") (fun ρ => .nx ρ))
      (seqD (forD (itD (varD 0)) (.nm 1) (ifD (notT (tstD (callD f_is_list_below (consA (varD 1) (consA (addD (cD (.int 1000000)) (cD (.int 1))) nilA))))) (fun _ => .ex "BadTable") (fun ρ => .nx ρ)))
      (seqD (asgD 2 (cbD lenF (consA (ixD (varD 0) (cD (.int 0))) nilA)))
      (seqD (ifD (tstD (binR gtI (varD 2) (cD (.int 40)))) (fun _ => .ex "BadTable") (fun ρ => .nx ρ))
      (forD (itD (varD 0)) (.nm 1) (ifD (tstD (binR neF (cbD lenF (consA (varD 1) nilA)) (varD 2))) (fun _ => .ex "BadTable") (fun ρ => .nx ρ)))))))
def f_need_table : List PD → Out R := denF 3 1 d_need_table
set_option maxHeartbeats 4000000 in
theorem m_need_table {P : Program} {w : World} {K : PySem.W.Frag} {mg : Str → Option Value} {base : Heap} {t_MOST_HEIRS : Tok} {t_MOST_WORTH : Tok} {t_MOST_THINGS : Tok} {f : Addr} {fd : FuncData} (F : FnP K "need_table" s_need_table f fd) (h_type : mg "type" = none) (h_list : mg "list" = none) (h_len : mg "len" = none) (hc_MOST_HEIRS : mg "MOST_HEIRS" = some (.int 8 t_MOST_HEIRS)) (hc_MOST_WORTH : mg "MOST_WORTH" = some (.int 1000000 t_MOST_WORTH)) (hc_MOST_THINGS : mg "MOST_THINGS" = some (.int 40 t_MOST_THINGS)) (e_BadTable : ExF K mg "BadTable") (G_is_list_below : Cal P w K mg base (cm K) "is_list_below" 2 2 ["value", "limit"] f_is_list_below) :
    FnOk P w K mg base (L2N.CX P w) 3 f fd ["table"] (SpF K (cm K) 1 f_need_table) :=
  fnOk_of F sc_need_table rfl (by decide) fun cdv A outer s H E hr => by
    exact (sb_cons (ss_if (sw_or (st_nty (T := "list") (by rfl) h_type (by rfl) h_list (by decide +kernel) (se_var 0)) (sw_or1 (st_not (st_chn op_le op_le lk_le lk_le se_int (se_cb call_len lk_len (by rfl) h_len boot_len (sa_cons (se_var 0) sa_nil)) (se_globI (by rfl) hc_MOST_HEIRS))))).t (sb_one (ss_raise (c := "BadTable") rfl (L2N.takes_of rfl rfl rfl rfl) rfl PySem.F.excBase_ValueError e_BadTable.2.1 e_BadTable.1 e_BadTable.2.2.1 (raises_own e_BadTable.2.2.2.1 e_BadTable.2.2.2.2) rfl)) sb_nil)
      (sb_cons (ss_for (passes_of rfl) rfl (si_list (se_var 0)) (sg_name 1 sc_need_table.nd (Or.inl rfl)) (sb_one (ss_if (st_not (st_val (se_cal G_is_list_below hr (by decide) (L2N.passes_call (L2N.takes_of rfl rfl rfl rfl) (fun _ _ _ _ h => h)) (alen_cons (alen_cons alen_nil)) (sa_cons (se_var 1) (sa_cons (se_add (se_globI (by rfl) hc_MOST_WORTH) se_int) sa_nil))))) (sb_one (ss_raise (c := "BadTable") rfl (L2N.takes_of rfl rfl rfl rfl) rfl PySem.F.excBase_ValueError e_BadTable.2.1 e_BadTable.1 e_BadTable.2.2.1 (raises_own e_BadTable.2.2.2.1 e_BadTable.2.2.2.2) rfl)) sb_nil)))
      (sb_cons (ss_asg 2 sc_need_table.nd (Or.inl rfl) (se_cb call_len lk_len (by rfl) h_len boot_len (sa_cons (se_ix (se_var 0) se_int (fun _ _ => rfl)) sa_nil)))
      (sb_cons (ss_if (st_cmp op_gt lk_gt (se_var 2) (se_globI (by rfl) hc_MOST_THINGS) (nomark _)) (sb_one (ss_raise (c := "BadTable") rfl (L2N.takes_of rfl rfl rfl rfl) rfl PySem.F.excBase_ValueError e_BadTable.2.1 e_BadTable.1 e_BadTable.2.2.1 (raises_own e_BadTable.2.2.2.1 e_BadTable.2.2.2.2) rfl)) sb_nil)
      (sb_one (ss_for (passes_of rfl) rfl (si_list (se_var 0)) (sg_name 1 sc_need_table.nd (Or.inl rfl)) (sb_one (ss_if (st_cmp (op_neD (room64 hr)) lk_ne (se_cb call_len lk_len (by rfl) h_len boot_len (sa_cons (se_var 1) sa_nil)) (se_var 2) (nomark _)) (sb_one (ss_raise (c := "BadTable") rfl (L2N.takes_of rfl rfl rfl rfl) rfl PySem.F.excBase_ValueError e_BadTable.2.1 e_BadTable.1 e_BadTable.2.2.1 (raises_own e_BadTable.2.2.2.1 e_BadTable.2.2.2.2) rfl)) sb_nil))))))))
/-! #### need_worths -/
abbrev s_need_worths : Stmt := topS 15
theorem sc_need_worths : FnScope ["worths", "many"] ["worths", "many"] (defScope s_need_worths) := ⟨rfl, rfl, rfl, by decide +kernel, rfl, by decide +kernel, by decide +kernel⟩
def d_need_worths : SD :=
      (ifD (orT (notT (tstD (callD f_is_list_below (consA (varD 0) (consA (addD (cD (.int 1000000)) (cD (.int 1))) nilA))))) (tstD (binR neF (cbD lenF (consA (varD 0) nilA)) (varD 1)))) (fun _ => .ex "BadTable") (fun ρ => .nx ρ))
def f_need_worths : List PD → Out R := denF 2 2 d_need_worths
set_option maxHeartbeats 4000000 in
theorem m_need_worths {P : Program} {w : World} {K : PySem.W.Frag} {mg : Str → Option Value} {base : Heap} {t_MOST_WORTH : Tok} {f : Addr} {fd : FuncData} (F : FnP K "need_worths" s_need_worths f fd) (h_len : mg "len" = none) (hc_MOST_WORTH : mg "MOST_WORTH" = some (.int 1000000 t_MOST_WORTH)) (e_BadTable : ExF K mg "BadTable") (G_is_list_below : Cal P w K mg base (cm K) "is_list_below" 2 2 ["value", "limit"] f_is_list_below) :
    FnOk P w K mg base (L2N.CX P w) 3 f fd ["worths", "many"] (SpF K (cm K) 2 f_need_worths) :=
  fnOk_of F sc_need_worths rfl (by decide) fun cdv A outer s H E hr => by
    exact (sb_one (ss_if (sw_or (st_not (st_val (se_cal G_is_list_below hr (by decide) (L2N.passes_call (L2N.takes_of rfl rfl rfl rfl) (fun _ _ _ _ h => h)) (alen_cons (alen_cons alen_nil)) (sa_cons (se_var 0) (sa_cons (se_add (se_globI (by rfl) hc_MOST_WORTH) se_int) sa_nil))))) (sw_or1 (st_cmp (op_neD (room64 hr)) lk_ne (se_cb call_len lk_len (by rfl) h_len boot_len (sa_cons (se_var 0) sa_nil)) (se_var 1) (nomark _)))).t (sb_one (ss_raise (c := "BadTable") rfl (L2N.takes_of rfl rfl rfl rfl) rfl PySem.F.excBase_ValueError e_BadTable.2.1 e_BadTable.1 e_BadTable.2.2.1 (raises_own e_BadTable.2.2.2.1 e_BadTable.2.2.2.2) rfl)) sb_nil))
/-! #### need_parted -/
abbrev s_need_parted : Stmt := topS 16
theorem sc_need_parted : FnScope ["shares", "many", "share", "held", "thing"] ["shares", "many"] (defScope s_need_parted) := ⟨rfl, rfl, rfl, by decide +kernel, rfl, by decide +kernel, by decide +kernel⟩
def d_need_parted : SD :=
      (seqD (forD (itD (varD 0)) (.nm 2) (seqD (ifD (notT (tstD (callD f_is_list_below (consA (varD 2) (consA (varD 1) nilA))))) (fun _ => .ex "BadShares") (fun ρ => .nx ρ))
      (ifD (tstD (binR neF (varD 2) (sortD (consA (varD 2) nilA)))) (fun _ => .ex "BadShares") (fun ρ => .nx ρ))))
      (seqD (asgD 3 (lc2D (itJ (varD 0)) [2, 4] (.nm 2) yesT (itD (varD 2)) [4] (.nm 4) yesT (varD 4)))
      (ifD (tstD (binR neF (lenSetD (varD 3)) (cbD lenF (consA (varD 3) nilA)))) (fun _ => .ex "BadShares") (fun ρ => .nx ρ))))
def f_need_parted : List PD → Out R := denF 5 2 d_need_parted
set_option maxHeartbeats 4000000 in
theorem m_need_parted {P : Program} {w : World} {K : PySem.W.Frag} {mg : Str → Option Value} {base : Heap}  {f : Addr} {fd : FuncData} (F : FnP K "need_parted" s_need_parted f fd) (h_sorted : mg "sorted" = none) (h_len : mg "len" = none) (h_set : mg "set" = none) (e_BadShares : ExF K mg "BadShares") (G_is_list_below : Cal P w K mg base (cm K) "is_list_below" 2 2 ["value", "limit"] f_is_list_below) :
    FnOk P w K mg base (L2N.CX P w) 3 f fd ["shares", "many"] (SpF K (cm K) 2 f_need_parted) :=
  fnOk_of F sc_need_parted rfl (by decide) fun cdv A outer s H E hr => by
    exact (sb_cons (ss_for (passes_of rfl) rfl (si_list (se_var 0)) (sg_name 2 sc_need_parted.nd (Or.inl rfl)) (sb_cons (ss_if (st_not (st_val (se_cal G_is_list_below hr (by decide) (L2N.passes_call (L2N.takes_of rfl rfl rfl rfl) (fun _ _ _ _ h => h)) (alen_cons (alen_cons alen_nil)) (sa_cons (se_var 2) (sa_cons (se_var 1) sa_nil))))) (sb_one (ss_raise (c := "BadShares") rfl (L2N.takes_of rfl rfl rfl rfl) rfl PySem.F.excBase_ValueError e_BadShares.2.1 e_BadShares.1 e_BadShares.2.2.1 (raises_own e_BadShares.2.2.2.1 e_BadShares.2.2.2.2) rfl)) sb_nil)
      (sb_one (ss_if (st_cmp (op_neD (room64 hr)) lk_ne (se_var 2) (se_sorted (by rfl) h_sorted (sa_cons (se_var 2) sa_nil)) (nomark _)) (sb_one (ss_raise (c := "BadShares") rfl (L2N.takes_of rfl rfl rfl rfl) rfl PySem.F.excBase_ValueError e_BadShares.2.1 e_BadShares.1 e_BadShares.2.2.1 (raises_own e_BadShares.2.2.2.1 e_BadShares.2.2.2.2) rfl)) sb_nil))))
      (sb_cons (ss_asgLc2 (own := [("share", 2), ("thing", 4)]) (vs1 := [4])  3 rfl sc_need_parted.nd rfl (sw_true rfl rfl rfl (by decide +kernel)) (sj_list (se_var 0)) (blkOk_by (N := ["shares", "many", "share", "held", "thing"]) (sc := defScope s_need_parted) (by decide +kernel)) (by decide) (by decide) (by decide) (fun b => (sg_name 2 sc_need_parted.nd (by first | exact Or.inl rfl | exact Or.inr rfl))) (fun b => sts_nil) (fun b => (si_list (se_var 2))) (fun b => (sg_name 4 sc_need_parted.nd (by first | exact Or.inl rfl | exact Or.inr rfl))) (fun b => sts_nil) (fun b => (se_var 4)))
      (sb_one (ss_if (st_cmp (op_neD (room64 hr)) lk_ne (se_lenSet (by rfl) h_len (by rfl) h_set (se_var 3)) (se_cb call_len lk_len (by rfl) h_len boot_len (sa_cons (se_var 3) sa_nil)) (nomark _)) (sb_one (ss_raise (c := "BadShares") rfl (L2N.takes_of rfl rfl rfl rfl) rfl PySem.F.excBase_ValueError e_BadShares.2.1 e_BadShares.1 e_BadShares.2.2.1 (raises_own e_BadShares.2.2.2.1 e_BadShares.2.2.2.2) rfl)) sb_nil))))
/-! #### need_shares -/
abbrev s_need_shares : Stmt := topS 17
theorem sc_need_shares : FnScope ["table", "shares"] ["table", "shares"] (defScope s_need_shares) := ⟨rfl, rfl, rfl, by decide +kernel, rfl, by decide +kernel, by decide +kernel⟩
def d_need_shares : SD :=
      (seqD (exprD (callD f_need_table (consA (varD 0) nilA)))
      (seqD (ifD (orT (tstD (tyD not "list" (varD 1))) (tstD (binR neF (cbD lenF (consA (varD 1) nilA)) (cbD lenF (consA (varD 0) nilA))))) (fun _ => .ex "BadShares") (fun ρ => .nx ρ))
      (exprD (callD f_need_parted (consA (varD 1) (consA (cbD lenF (consA (ixD (varD 0) (cD (.int 0))) nilA)) nilA))))))
def f_need_shares : List PD → Out R := denF 2 2 d_need_shares
set_option maxHeartbeats 4000000 in
theorem m_need_shares {P : Program} {w : World} {K : PySem.W.Frag} {mg : Str → Option Value} {base : Heap}  {f : Addr} {fd : FuncData} (F : FnP K "need_shares" s_need_shares f fd) (h_type : mg "type" = none) (h_list : mg "list" = none) (h_len : mg "len" = none) (e_BadShares : ExF K mg "BadShares") (G_need_table : Cal P w K mg base (cm K) "need_table" 3 1 ["table"] f_need_table) (G_need_parted : Cal P w K mg base (cm K) "need_parted" 3 2 ["shares", "many"] f_need_parted) :
    FnOk P w K mg base (L2N.CX P w) 4 f fd ["table", "shares"] (SpF K (cm K) 2 f_need_shares) :=
  fnOk_of F sc_need_shares rfl (by decide) fun cdv A outer s H E hr => by
    exact (sb_cons (ss_expr (se_cal G_need_table hr (by decide) (L2N.passes_call (L2N.takes_of rfl rfl rfl rfl) (fun _ _ _ _ h => h)) (alen_cons alen_nil) (sa_cons (se_var 0) sa_nil)))
      (sb_cons (ss_if (sw_or (st_nty (T := "list") (by rfl) h_type (by rfl) h_list (by decide +kernel) (se_var 1)) (sw_or1 (st_cmp (op_neD (room64 hr)) lk_ne (se_cb call_len lk_len (by rfl) h_len boot_len (sa_cons (se_var 1) sa_nil)) (se_cb call_len lk_len (by rfl) h_len boot_len (sa_cons (se_var 0) sa_nil)) (nomark _)))).t (sb_one (ss_raise (c := "BadShares") rfl (L2N.takes_of rfl rfl rfl rfl) rfl PySem.F.excBase_ValueError e_BadShares.2.1 e_BadShares.1 e_BadShares.2.2.1 (raises_own e_BadShares.2.2.2.1 e_BadShares.2.2.2.2) rfl)) sb_nil)
      (sb_one (ss_expr (se_cal G_need_parted hr (by decide) (L2N.passes_call (L2N.takes_of rfl rfl rfl rfl) (fun _ _ _ _ h => h)) (alen_cons (alen_cons alen_nil)) (sa_cons (se_var 1) (sa_cons (se_cb call_len lk_len (by rfl) h_len boot_len (sa_cons (se_ix (se_var 0) se_int (fun _ _ => rfl)) sa_nil)) sa_nil)))))))
/-! #### need_heir -/
abbrev s_need_heir : Stmt := topS 18
theorem sc_need_heir : FnScope ["table", "heir"] ["table", "heir"] (defScope s_need_heir) := ⟨rfl, rfl, rfl, by decide +kernel, rfl, by decide +kernel, by decide +kernel⟩
def d_need_heir : SD :=
      (ifD (notT (tstD (callD f_is_number_below (consA (varD 1) (consA (cbD lenF (consA (varD 0) nilA)) nilA))))) (fun _ => .ex "BadHeir") (fun ρ => .nx ρ))
def f_need_heir : List PD → Out R := denF 2 2 d_need_heir
set_option maxHeartbeats 4000000 in
theorem m_need_heir {P : Program} {w : World} {K : PySem.W.Frag} {mg : Str → Option Value} {base : Heap}  {f : Addr} {fd : FuncData} (F : FnP K "need_heir" s_need_heir f fd) (h_len : mg "len" = none) (e_BadHeir : ExF K mg "BadHeir") (G_is_number_below : Cal P w K mg base (cm K) "is_number_below" 1 2 ["value", "limit"] f_is_number_below) :
    FnOk P w K mg base (L2N.CX P w) 2 f fd ["table", "heir"] (SpF K (cm K) 2 f_need_heir) :=
  fnOk_of F sc_need_heir rfl (by decide) fun cdv A outer s H E hr => by
    exact (sb_one (ss_if (st_not (st_val (se_cal G_is_number_below hr (by decide) (L2N.passes_call (L2N.takes_of rfl rfl rfl rfl) (fun _ _ _ _ h => h)) (alen_cons (alen_cons alen_nil)) (sa_cons (se_var 1) (sa_cons (se_cb call_len lk_len (by rfl) h_len boot_len (sa_cons (se_var 0) sa_nil)) sa_nil))))) (sb_one (ss_raise (c := "BadHeir") rfl (L2N.takes_of rfl rfl rfl rfl) rfl PySem.F.excBase_ValueError e_BadHeir.2.1 e_BadHeir.1 e_BadHeir.2.2.1 (raises_own e_BadHeir.2.2.2.1 e_BadHeir.2.2.2.2) rfl)) sb_nil))
/-! #### total -/
abbrev s_total : Stmt := topS 19
theorem sc_total : FnScope ["row", "things", "thing"] ["row", "things"] (defScope s_total) := ⟨rfl, rfl, rfl, by decide +kernel, rfl, by decide +kernel, by decide +kernel⟩
def d_total : SD :=
      (retD (cbD sumF (consA (lcD (itJ (varD 1)) [2] (.nm 2) yesT (ixD (varD 0) (varD 2))) nilA)))
def f_total : List PD → Out R := denF 3 2 d_total
set_option maxHeartbeats 4000000 in
theorem m_total {P : Program} {w : World} {K : PySem.W.Frag} {mg : Str → Option Value} {base : Heap}  {f : Addr} {fd : FuncData} (F : FnP K "total" s_total f fd) (h_sum : mg "sum" = none) :
    FnOk P w K mg base (L2N.CX P w) 1 f fd ["row", "things"] (SpF K (cm K) 2 f_total) :=
  fnOk_of F sc_total rfl (by decide) fun cdv A outer s H E hr => by
    exact (sb_one (ss_ret (se_cb (cr_sum rfl) lk_sum (by rfl) h_sum (by decide +kernel) (sa_cons (se_lc (own := [("thing", 2)]) rfl sc_total.nd (sj_list (se_var 1)) (blkOk_by (N := ["row", "things", "thing"]) (sc := defScope s_total) (by decide +kernel)) (by decide) (fun b => (sg_name 2 sc_total.nd (by first | exact Or.inl rfl | exact Or.inr rfl))) (fun b => sts_nil) (fun b => (se_ix (se_var 0) (se_var 2) (fun _ _ => rfl)))) sa_nil))))
/-! #### prefers -/
abbrev s_prefers : Stmt := topS 21
theorem sc_prefers : FnScope ["row", "others", "own"] ["row", "others", "own"] (defScope s_prefers) := ⟨rfl, rfl, rfl, by decide +kernel, rfl, by decide +kernel, by decide +kernel⟩
def d_prefers : SD :=
      (retD (binR gtI (callD f_total (consA (varD 0) (consA (varD 1) nilA))) (callD f_total (consA (varD 0) (consA (varD 2) nilA)))))
def f_prefers : List PD → Out R := denF 3 3 d_prefers
set_option maxHeartbeats 4000000 in
theorem m_prefers {P : Program} {w : World} {K : PySem.W.Frag} {mg : Str → Option Value} {base : Heap}  {f : Addr} {fd : FuncData} (F : FnP K "prefers" s_prefers f fd) (G_total : Cal P w K mg base (cm K) "total" 1 2 ["row", "things"] f_total) :
    FnOk P w K mg base (L2N.CX P w) 2 f fd ["row", "others", "own"] (SpF K (cm K) 3 f_prefers) :=
  fnOk_of F sc_prefers rfl (by decide) fun cdv A outer s H E hr => by
    exact (sb_one (ss_ret (se_cmp op_gt lk_gt (se_cal G_total hr (by decide) (L2N.passes_call (L2N.takes_of rfl rfl rfl rfl) (fun _ _ _ _ h => h)) (alen_cons (alen_cons alen_nil)) (sa_cons (se_var 0) (sa_cons (se_var 1) sa_nil))) (se_cal G_total hr (by decide) (L2N.passes_call (L2N.takes_of rfl rfl rfl rfl) (fun _ _ _ _ h => h)) (alen_cons (alen_cons alen_nil)) (sa_cons (se_var 0) (sa_cons (se_var 2) sa_nil))) (nomark _))))
/-! #### envies -/
abbrev s_envies : Stmt := topS 22
theorem sc_envies : FnScope ["table", "shares", "pairs", "heir", "row", "other", "share"] ["table", "shares"] (defScope s_envies) := ⟨rfl, rfl, rfl, by decide +kernel, rfl, by decide +kernel, by decide +kernel⟩
def d_envies : SD :=
      (seqD (exprD (callD f_need_shares (consA (varD 0) (consA (varD 1) nilA))))
      (seqD (asgD 2 (lstD nilA))
      (seqD (forD (enD (varD 0)) (.tp [3, 4]) (forD (enD (varD 1)) (.tp [5, 6]) (ifD (tstD (callD f_prefers (consA (varD 4) (consA (varD 6) (consA (ixD (varD 1) (varD 3)) nilA))))) (appD 2 (ownQ 2) (tupD (consA (varD 3) (consA (varD 5) nilA)))) (fun ρ => .nx ρ))))
      (retVD 2))))
def f_envies : List PD → Out R := denF 7 2 d_envies
set_option maxHeartbeats 4000000 in
theorem m_envies {P : Program} {w : World} {K : PySem.W.Frag} {mg : Str → Option Value} {base : Heap}  {f : Addr} {fd : FuncData} (F : FnP K "envies" s_envies f fd) (h_enumerate : mg "enumerate" = none) (G_need_shares : Cal P w K mg base (cm K) "need_shares" 4 2 ["table", "shares"] f_need_shares) (G_prefers : Cal P w K mg base (cm K) "prefers" 2 3 ["row", "others", "own"] f_prefers) :
    FnOk P w K mg base (L2N.CX P w) 5 f fd ["table", "shares"] (SpF K (cm K) 2 f_envies) :=
  fnOk_of F sc_envies rfl (by decide) fun cdv A outer s H E hr => by
    exact (sb_cons (ss_expr (se_cal G_need_shares hr (by decide) (L2N.passes_call (L2N.takes_of rfl rfl rfl rfl) (fun _ _ _ _ h => h)) (alen_cons (alen_cons alen_nil)) (sa_cons (se_var 0) (sa_cons (se_var 1) sa_nil))))
      (sb_cons (ss_asg 2 sc_envies.nd (Or.inl rfl) (se_lst sa_nil))
      (sb_cons (ss_for (passes_of rfl) rfl (si_enum (by rfl) h_enumerate (se_var 0)) (sg_tup rfl (sgs_cons 3 sc_envies.nd (Or.inl rfl) (sgs_cons 4 sc_envies.nd (Or.inl rfl) sgs_nil))) (sb_one (ss_for (passes_of rfl) rfl (si_enum (by rfl) h_enumerate (se_var 1)) (sg_tup rfl (sgs_cons 5 sc_envies.nd (Or.inl rfl) (sgs_cons 6 sc_envies.nd (Or.inl rfl) sgs_nil))) (sb_one (ss_if (st_val (se_cal G_prefers hr (by decide) (L2N.passes_call (L2N.takes_of rfl rfl rfl rfl) (fun _ _ _ _ h => h)) (alen_cons (alen_cons (alen_cons alen_nil))) (sa_cons (se_var 4) (sa_cons (se_var 6) (sa_cons (se_ix (se_var 1) (se_var 3) (fun _ _ => rfl)) sa_nil))))) (sb_one (ss_app (spl_var 2) (se_tup (sa_cons (se_var 3) (sa_cons (se_var 5) sa_nil))) (hp := fun _ _ ho ha => pe_bm PySem.F.plainAttrs_list PySem.F.slot_list_append PySem.F.type_list_append mt_append ho ha))) sb_nil)))))
      (sb_one (ss_retV 2)))))
/-! #### unenvied -/
abbrev s_unenvied : Stmt := topS 24
theorem sc_unenvied : FnScope ["pairs", "heirs", "other", "heir"] ["pairs", "heirs"] (defScope s_unenvied) := ⟨rfl, rfl, rfl, by decide +kernel, rfl, by decide +kernel, by decide +kernel⟩
def d_unenvied : SD :=
      (seqD (forD (itD (varD 1)) (.nm 2) (ifD (notT (tstD (cbD anyF (consA (lcD (itJ (varD 1)) [3] (.nm 3) yesT (binR inF (tupD (consA (varD 3) (consA (varD 2) nilA))) (varD 0))) nilA)))) (retVD 2) (fun ρ => .nx ρ)))
      (retD (cD .none)))
def f_unenvied : List PD → Out R := denF 4 2 d_unenvied
set_option maxHeartbeats 4000000 in
theorem m_unenvied {P : Program} {w : World} {K : PySem.W.Frag} {mg : Str → Option Value} {base : Heap}  {f : Addr} {fd : FuncData} (F : FnP K "unenvied" s_unenvied f fd) (h_any : mg "any" = none) :
    FnOk P w K mg base (L2N.CX P w) 1 f fd ["pairs", "heirs"] (SpF K (cm K) 2 f_unenvied) :=
  fnOk_of F sc_unenvied rfl (by decide) fun cdv A outer s H E hr => by
    exact (sb_cons (ss_for (passes_of rfl) rfl (si_list (se_var 1)) (sg_name 2 sc_unenvied.nd (Or.inr rfl)) (sb_one (ss_if (st_not (st_val (se_cb (cr_any rfl) lk_any (by rfl) h_any (by decide +kernel) (sa_cons (se_lc (own := [("heir", 3)]) rfl sc_unenvied.nd (sj_list (se_var 1)) (blkOk_by (N := ["pairs", "heirs", "other", "heir"]) (sc := defScope s_unenvied) (by decide +kernel)) (by decide) (fun b => (sg_name 3 sc_unenvied.nd (by first | exact Or.inl rfl | exact Or.inr rfl))) (fun b => sts_nil) (fun b => (se_cmp (op_inD (room65 hr)) lk_in (se_tup (sa_cons (se_var 3) (sa_cons (se_var 2) sa_nil))) (se_var 0) (by rfl)))) sa_nil)))) (sb_one (ss_retV 2)) sb_nil)))
      (sb_one (ss_ret se_non)))
/-! #### front_of_line -/
abbrev s_front_of_line : Stmt := topS 25
theorem sc_front_of_line : FnScope ["pairs", "many", "front", "left", "found"] ["pairs", "many"] (defScope s_front_of_line) := ⟨rfl, rfl, rfl, by decide +kernel, rfl, by decide +kernel, by decide +kernel⟩
def d_front_of_line : SD :=
      (seqD (asgD 2 (lstD nilA))
      (seqD (asgD 3 (lrgD (varD 1)))
      (seqD (asgD 4 (callD f_unenvied (consA (varD 0) (consA (varD 3) nilA))))
      (seqD (whileN (tstD (binR nNF (varD 4) (cD .none))) (seqD (appD 2 (ownQ 2) (varD 4))
      (seqD (remD 3 (varD 4))
      (asgD 4 (callD f_unenvied (consA (varD 0) (consA (varD 3) nilA)))))) 1000000)
      (retVD 2)))))
def f_front_of_line : List PD → Out R := denF 5 2 d_front_of_line
set_option maxHeartbeats 4000000 in
theorem m_front_of_line {P : Program} {w : World} {K : PySem.W.Frag} {mg : Str → Option Value} {base : Heap}  {f : Addr} {fd : FuncData} (F : FnP K "front_of_line" s_front_of_line f fd) (h_list : mg "list" = none) (h_range : mg "range" = none) (G_unenvied : Cal P w K mg base (cm K) "unenvied" 1 2 ["pairs", "heirs"] f_unenvied) :
    FnOk P w K mg base (L2N.CX P w) 2 f fd ["pairs", "many"] (SpF K (cm K) 2 f_front_of_line) :=
  fnOk_of F sc_front_of_line rfl (by decide) fun cdv A outer s H E hr => by
    exact (sb_cons (ss_asg 2 sc_front_of_line.nd (Or.inl rfl) (se_lst sa_nil))
      (sb_cons (ss_asg 3 sc_front_of_line.nd (Or.inl rfl) (se_lrg rfl (by rfl) h_list (by rfl) h_range (se_var 1)))
      (sb_cons (ss_asg 4 sc_front_of_line.nd (Or.inl rfl) (se_cal G_unenvied hr (by decide) (L2N.passes_call (L2N.takes_of rfl rfl rfl rfl) (fun _ _ _ _ h => h)) (alen_cons (alen_cons alen_nil)) (sa_cons (se_var 0) (sa_cons (se_var 3) sa_nil))))
      (sb_cons (ss_while 1000000 (passes_of rfl) (st_cmp op_notN lk_nN (se_var 4) se_non (nomark _)) (sb_cons (ss_app (spl_var 2) (se_var 4) (hp := fun _ _ ho ha => pe_bm PySem.F.plainAttrs_list PySem.F.slot_list_append PySem.F.type_list_append mt_append ho ha))
      (sb_cons (ss_rem 3 (se_var 4) (hp := fun _ _ ho ha => pe_bm PySem.F.plainAttrs_list PySem.F.slot_list_remove PySem.F.type_list_remove mt_remove ho ha))
      (sb_one (ss_asg 4 sc_front_of_line.nd (Or.inl rfl) (se_cal G_unenvied hr (by decide) (L2N.passes_call (L2N.takes_of rfl rfl rfl rfl) (fun _ _ _ _ h => h)) (alen_cons (alen_cons alen_nil)) (sa_cons (se_var 0) (sa_cons (se_var 3) sa_nil))))))))
      (sb_one (ss_retV 2))))))
/-! #### ring_among -/
abbrev s_ring_among : Stmt := topS 26
theorem sc_ring_among : FnScope ["pairs", "heirs", "walked", "heir", "found", "other"] ["pairs", "heirs"] (defScope s_ring_among) := ⟨rfl, rfl, rfl, by decide +kernel, rfl, by decide +kernel, by decide +kernel⟩
def d_ring_among : SD :=
      (seqD (asgD 2 (lstD nilA))
      (seqD (asgD 3 (ixD (varD 1) (cD (.int 0))))
      (seqD (whileN (tstD (binR niF (varD 3) (varD 2))) (seqD (appD 2 (ownQ 2) (varD 3))
      (asgD 3 (ixD (lcD (itJ (varD 1)) [5] (.nm 5) (tstD (binR inF (tupD (consA (varD 5) (consA (varD 3) nilA))) (varD 0))) (varD 5)) (cD (.int 0))))) 1000000)
      (seqD (asgD 4 (slD (varD 2) (soO (indexD (varD 2) (varD 3))) noO))
      (retD (revD (varD 4)))))))
def f_ring_among : List PD → Out R := denF 6 2 d_ring_among
set_option maxHeartbeats 4000000 in
theorem m_ring_among {P : Program} {w : World} {K : PySem.W.Frag} {mg : Str → Option Value} {base : Heap}  {f : Addr} {fd : FuncData} (F : FnP K "ring_among" s_ring_among f fd)  :
    FnOk P w K mg base (L2N.CX P w) 1 f fd ["pairs", "heirs"] (SpF K (cm K) 2 f_ring_among) :=
  fnOk_of F sc_ring_among rfl (by decide) fun cdv A outer s H E hr => by
    exact (sb_cons (ss_asg 2 sc_ring_among.nd (Or.inl rfl) (se_lst sa_nil))
      (sb_cons (ss_asg 3 sc_ring_among.nd (Or.inr rfl) (se_ix (se_var 1) se_int (fun _ _ => rfl)))
      (sb_cons (ss_while 1000000 (passes_of rfl) (st_cmp (op_notInD (room65 hr)) lk_ni (se_var 3) (se_var 2) (by rfl)) (sb_cons (ss_app (spl_var 2) (se_var 3) (hp := fun _ _ ho ha => pe_bm PySem.F.plainAttrs_list PySem.F.slot_list_append PySem.F.type_list_append mt_append ho ha))
      (sb_one (ss_asg 3 sc_ring_among.nd (Or.inr rfl) (se_ix (se_lc (own := [("other", 5)]) rfl sc_ring_among.nd (sj_list (se_var 1)) (blkOk_by (N := ["pairs", "heirs", "walked", "heir", "found", "other"]) (sc := defScope s_ring_among) (by decide +kernel)) (by decide) (fun b => (sg_name 5 sc_ring_among.nd (by first | exact Or.inl rfl | exact Or.inr rfl))) (fun b => (sts_one (st_cmp (op_inD (room65 hr)) lk_in (se_tup (sa_cons (se_var 5) (sa_cons (se_var 3) sa_nil))) (se_var 0) (by rfl)))) (fun b => (se_var 5))) se_int (fun _ _ => rfl))))))
      (sb_cons (ss_asg 4 sc_ring_among.nd (Or.inl rfl) (se_sl (se_var 2) (so_some (se_index (room65 hr) (se_var 2) (se_var 3) (fun _ _ ho ha => pe_bm PySem.F.plainAttrs_list PySem.F.slot_list_index PySem.F.type_list_index (mt_indexD (room65 hr)) ho ha))) so_none))
      (sb_one (ss_ret (se_rev (se_var 4))))))))
/-! #### ring -/
abbrev s_ring : Stmt := topS 27
theorem sc_ring : FnScope ["table", "shares", "pairs", "front", "left", "heir"] ["table", "shares"] (defScope s_ring) := ⟨rfl, rfl, rfl, by decide +kernel, rfl, by decide +kernel, by decide +kernel⟩
def d_ring : SD :=
      (seqD (asgD 2 (callD f_envies (consA (varD 0) (consA (varD 1) nilA))))
      (seqD (asgD 3 (callD f_front_of_line (consA (varD 2) (consA (cbD lenF (consA (varD 0) nilA)) nilA))))
      (seqD (asgD 4 (lcD (rg1D (cbD lenF (consA (varD 0) nilA))) [5] (.nm 5) (tstD (binR niF (varD 5) (varD 3))) (varD 5)))
      (seqD (ifD (notT (truD (varD 4))) (retD (cD .none)) (fun ρ => .nx ρ))
      (retD (callD f_ring_among (consA (varD 2) (consA (varD 4) nilA))))))))
def f_ring : List PD → Out R := denF 6 2 d_ring
set_option maxHeartbeats 4000000 in
theorem m_ring {P : Program} {w : World} {K : PySem.W.Frag} {mg : Str → Option Value} {base : Heap}  {f : Addr} {fd : FuncData} (F : FnP K "ring" s_ring f fd) (h_len : mg "len" = none) (h_range : mg "range" = none) (G_envies : Cal P w K mg base (cm K) "envies" 5 2 ["table", "shares"] f_envies) (G_front_of_line : Cal P w K mg base (cm K) "front_of_line" 2 2 ["pairs", "many"] f_front_of_line) (G_ring_among : Cal P w K mg base (cm K) "ring_among" 1 2 ["pairs", "heirs"] f_ring_among) :
    FnOk P w K mg base (L2N.CX P w) 6 f fd ["table", "shares"] (SpF K (cm K) 2 f_ring) :=
  fnOk_of F sc_ring rfl (by decide) fun cdv A outer s H E hr => by
    exact (sb_cons (ss_asg 2 sc_ring.nd (Or.inl rfl) (se_cal G_envies hr (by decide) (L2N.passes_call (L2N.takes_of rfl rfl rfl rfl) (fun _ _ _ _ h => h)) (alen_cons (alen_cons alen_nil)) (sa_cons (se_var 0) (sa_cons (se_var 1) sa_nil))))
      (sb_cons (ss_asg 3 sc_ring.nd (Or.inr rfl) (se_cal G_front_of_line hr (by decide) (L2N.passes_call (L2N.takes_of rfl rfl rfl rfl) (fun _ _ _ _ h => h)) (alen_cons (alen_cons alen_nil)) (sa_cons (se_var 2) (sa_cons (se_cb call_len lk_len (by rfl) h_len boot_len (sa_cons (se_var 0) sa_nil)) sa_nil))))
      (sb_cons (ss_asgLc (own := [("heir", 5)])  4 rfl sc_ring.nd rfl (sw_true rfl rfl rfl (by decide +kernel)) (si_rg1 (by rfl) h_range (se_cb call_len lk_len (by rfl) h_len boot_len (sa_cons (se_var 0) sa_nil))).j (blkOk_by (N := ["table", "shares", "pairs", "front", "left", "heir"]) (sc := defScope s_ring) (by decide +kernel)) (by decide) (fun b => (sg_name 5 sc_ring.nd (by first | exact Or.inl rfl | exact Or.inr rfl))) (fun b => (sts_one (st_cmp (op_notInD (room65 hr)) lk_ni (se_var 5) (se_var 3) (by rfl)))) (fun b => (se_var 5)))
      (sb_cons (ss_if (st_not (st_tru (se_var 4))) (sb_one (ss_ret se_non)) sb_nil)
      (sb_one (ss_ret (se_cal G_ring_among hr (by decide) (L2N.passes_call (L2N.takes_of rfl rfl rfl rfl) (fun _ _ _ _ h => h)) (alen_cons (alen_cons alen_nil)) (sa_cons (se_var 2) (sa_cons (se_var 4) sa_nil)))))))))
/-! #### with_next_ones -/
abbrev s_with_next_ones : Stmt := topS 28
theorem sc_with_next_ones : FnScope ["heirs"] ["heirs"] (defScope s_with_next_ones) := ⟨rfl, rfl, rfl, by decide +kernel, rfl, by decide +kernel, by decide +kernel⟩
def d_with_next_ones : SD :=
      (retD (lzipD (varD 0) (addD (slD (varD 0) (soO (cD (.int 1))) noO) (slD (varD 0) noO (soO (cD (.int 1)))))))
def f_with_next_ones : List PD → Out R := denF 1 1 d_with_next_ones
set_option maxHeartbeats 4000000 in
theorem m_with_next_ones {P : Program} {w : World} {K : PySem.W.Frag} {mg : Str → Option Value} {base : Heap}  {f : Addr} {fd : FuncData} (F : FnP K "with_next_ones" s_with_next_ones f fd) (h_list : mg "list" = none) (h_zip : mg "zip" = none) :
    FnOk P w K mg base (L2N.CX P w) 1 f fd ["heirs"] (SpF K (cm K) 1 f_with_next_ones) :=
  fnOk_of F sc_with_next_ones rfl (by decide) fun cdv A outer s H E hr => by
    exact (sb_one (ss_ret (se_lzip rfl (by rfl) h_list (by rfl) h_zip (se_var 0) (se_add (se_sl (se_var 0) (so_some se_int) so_none) (se_sl (se_var 0) so_none (so_some se_int))))))
/-! #### is_ring -/
abbrev s_is_ring : Stmt := topS 29
theorem sc_is_ring : FnScope ["pairs", "many", "heirs", "pair"] ["pairs", "many", "heirs"] (defScope s_is_ring) := ⟨rfl, rfl, rfl, by decide +kernel, rfl, by decide +kernel, by decide +kernel⟩
def d_is_ring : SD :=
      (seqD (ifD (orT (notT (tstD (callD f_is_list_below (consA (varD 2) (consA (varD 1) nilA))))) (tstD (binR ltI (cbD lenF (consA (varD 2) nilA)) (cD (.int 2))))) (retD (cD (.bool false))) (fun ρ => .nx ρ))
      (seqD (ifD (tstD (binR neF (lenSetD (varD 2)) (cbD lenF (consA (varD 2) nilA)))) (retD (cD (.bool false))) (fun ρ => .nx ρ))
      (retD (cbD allF (consA (lcD (itJ (callD f_with_next_ones (consA (varD 2) nilA))) [3] (.nm 3) yesT (binR inF (varD 3) (varD 0))) nilA)))))
def f_is_ring : List PD → Out R := denF 4 3 d_is_ring
set_option maxHeartbeats 4000000 in
theorem m_is_ring {P : Program} {w : World} {K : PySem.W.Frag} {mg : Str → Option Value} {base : Heap}  {f : Addr} {fd : FuncData} (F : FnP K "is_ring" s_is_ring f fd) (h_len : mg "len" = none) (h_set : mg "set" = none) (h_all : mg "all" = none) (G_is_list_below : Cal P w K mg base (cm K) "is_list_below" 2 2 ["value", "limit"] f_is_list_below) (G_with_next_ones : Cal P w K mg base (cm K) "with_next_ones" 1 1 ["heirs"] f_with_next_ones) :
    FnOk P w K mg base (L2N.CX P w) 3 f fd ["pairs", "many", "heirs"] (SpF K (cm K) 3 f_is_ring) :=
  fnOk_of F sc_is_ring rfl (by decide) fun cdv A outer s H E hr => by
    exact (sb_cons (ss_if (sw_or (st_not (st_val (se_cal G_is_list_below hr (by decide) (L2N.passes_call (L2N.takes_of rfl rfl rfl rfl) (fun _ _ _ _ h => h)) (alen_cons (alen_cons alen_nil)) (sa_cons (se_var 2) (sa_cons (se_var 1) sa_nil))))) (sw_or1 (st_cmp op_lt lk_lt (se_cb call_len lk_len (by rfl) h_len boot_len (sa_cons (se_var 2) sa_nil)) se_int (nomark _)))).t (sb_one (ss_ret se_bl)) sb_nil)
      (sb_cons (ss_if (st_cmp (op_neD (room64 hr)) lk_ne (se_lenSet (by rfl) h_len (by rfl) h_set (se_var 2)) (se_cb call_len lk_len (by rfl) h_len boot_len (sa_cons (se_var 2) sa_nil)) (nomark _)) (sb_one (ss_ret se_bl)) sb_nil)
      (sb_one (ss_ret (se_cb (cr_all rfl) lk_all (by rfl) h_all (by decide +kernel) (sa_cons (se_lc (own := [("pair", 3)]) rfl sc_is_ring.nd (sj_list (se_cal G_with_next_ones hr (by decide) (L2N.passes_call (L2N.takes_of rfl rfl rfl rfl) (fun _ _ _ _ h => h)) (alen_cons alen_nil) (sa_cons (se_var 2) sa_nil))) (blkOk_by (N := ["pairs", "many", "heirs", "pair"]) (sc := defScope s_is_ring) (by decide +kernel)) (by decide) (fun b => (sg_name 3 sc_is_ring.nd (by first | exact Or.inl rfl | exact Or.inr rfl))) (fun b => sts_nil) (fun b => (se_cmp (op_inD (room65 hr)) lk_in (se_var 3) (se_var 0) (by rfl)))) sa_nil))))))
/-! #### turned -/
abbrev s_turned : Stmt := topS 30
theorem sc_turned : FnScope ["table", "shares", "heirs", "pairs", "moved", "heir", "giver", "share"] ["table", "shares", "heirs"] (defScope s_turned) := ⟨rfl, rfl, rfl, by decide +kernel, rfl, by decide +kernel, by decide +kernel⟩
def d_turned : SD :=
      (seqD (asgD 3 (callD f_envies (consA (varD 0) (consA (varD 1) nilA))))
      (seqD (ifD (notT (tstD (callD f_is_ring (consA (varD 3) (consA (cbD lenF (consA (varD 0) nilA)) (consA (varD 2) nilA)))))) (fun _ => .ex "BadRing") (fun ρ => .nx ρ))
      (seqD (asgD 4 (lcFD 0 (itJ (varD 1)) [7] (.nm 7) yesT (listD (consA (varD 7) nilA))))
      (seqD (forD (itD (callD f_with_next_ones (consA (varD 2) nilA))) (.tp [5, 6]) (setD 4 (ownQ 4) (varD 5) (listD (consA (ixD (varD 1) (varD 6)) nilA))))
      (retVD 4)))))
def f_turned : List PD → Out R := denF 8 3 d_turned
set_option maxHeartbeats 4000000 in
theorem m_turned {P : Program} {w : World} {K : PySem.W.Frag} {mg : Str → Option Value} {base : Heap}  {f : Addr} {fd : FuncData} (F : FnP K "turned" s_turned f fd) (h_len : mg "len" = none) (h_list : mg "list" = none) (e_BadRing : ExF K mg "BadRing") (G_envies : Cal P w K mg base (cm K) "envies" 5 2 ["table", "shares"] f_envies) (G_is_ring : Cal P w K mg base (cm K) "is_ring" 3 3 ["pairs", "many", "heirs"] f_is_ring) (G_with_next_ones : Cal P w K mg base (cm K) "with_next_ones" 1 1 ["heirs"] f_with_next_ones) :
    FnOk P w K mg base (L2N.CX P w) 6 f fd ["table", "shares", "heirs"] (SpF K (cm K) 3 f_turned) :=
  fnOk_of F sc_turned rfl (by decide) fun cdv A outer s H E hr => by
    exact (sb_cons (ss_asg 3 sc_turned.nd (Or.inl rfl) (se_cal G_envies hr (by decide) (L2N.passes_call (L2N.takes_of rfl rfl rfl rfl) (fun _ _ _ _ h => h)) (alen_cons (alen_cons alen_nil)) (sa_cons (se_var 0) (sa_cons (se_var 1) sa_nil))))
      (sb_cons (ss_if (st_not (st_val (se_cal G_is_ring hr (by decide) (L2N.passes_call (L2N.takes_of rfl rfl rfl rfl) (fun _ _ _ _ h => h)) (alen_cons (alen_cons (alen_cons alen_nil))) (sa_cons (se_var 3) (sa_cons (se_cb call_len lk_len (by rfl) h_len boot_len (sa_cons (se_var 0) sa_nil)) (sa_cons (se_var 2) sa_nil)))))) (sb_one (ss_raise (c := "BadRing") rfl (L2N.takes_of rfl rfl rfl rfl) rfl PySem.F.excBase_ValueError e_BadRing.2.1 e_BadRing.1 e_BadRing.2.2.1 (raises_own e_BadRing.2.2.2.1 e_BadRing.2.2.2.2) rfl)) sb_nil)
      (sb_cons (ss_asgLcF (own := [("share", 7)]) 0 4 rfl sc_turned.nd rfl (sw_true rfl rfl rfl (by decide +kernel)) (sj_list (se_var 1)) (blkOk_by (N := ["table", "shares", "heirs", "pairs", "moved", "heir", "giver", "share"]) (sc := defScope s_turned) (by decide +kernel)) (by decide) (fun b => (sg_name 7 sc_turned.nd (by first | exact Or.inl rfl | exact Or.inr rfl))) (fun b => sts_nil) (fun b => (se_list (by rfl) h_list (sa_cons (se_var 7) sa_nil))))
      (sb_cons (ss_for (passes_of rfl) rfl (si_list (se_cal G_with_next_ones hr (by decide) (L2N.passes_call (L2N.takes_of rfl rfl rfl rfl) (fun _ _ _ _ h => h)) (alen_cons alen_nil) (sa_cons (se_var 2) sa_nil))) (sg_tup rfl (sgs_cons 5 sc_turned.nd (Or.inl rfl) (sgs_cons 6 sc_turned.nd (Or.inl rfl) sgs_nil))) (sb_one (ss_setI (spl_var 4) (se_var 5) (se_list (by rfl) h_list (sa_cons (se_ix (se_var 1) (se_var 6) (fun _ _ => rfl)) sa_nil)) (fun _ _ ho hi => pg_sub ho hi set_list))))
      (sb_one (ss_retV 4))))))
/-! #### need_aside -/
abbrev s_need_aside : Stmt := topS 32
theorem sc_need_aside : FnScope ["table", "shares", "thing", "share"] ["table", "shares", "thing"] (defScope s_need_aside) := ⟨rfl, rfl, rfl, by decide +kernel, rfl, by decide +kernel, by decide +kernel⟩
def d_need_aside : SD :=
      (seqD (exprD (callD f_need_shares (consA (varD 0) (consA (varD 1) nilA))))
      (seqD (ifD (notT (tstD (callD f_is_number_below (consA (varD 2) (consA (cbD lenF (consA (ixD (varD 0) (cD (.int 0))) nilA)) nilA))))) (fun _ => .ex "BadThing") (fun ρ => .nx ρ))
      (ifD (tstD (cbD anyF (consA (lcD (itJ (varD 1)) [3] (.nm 3) yesT (binR inF (varD 2) (varD 3))) nilA))) (fun _ => .ex "BadThing") (fun ρ => .nx ρ))))
def f_need_aside : List PD → Out R := denF 4 3 d_need_aside
set_option maxHeartbeats 4000000 in
theorem m_need_aside {P : Program} {w : World} {K : PySem.W.Frag} {mg : Str → Option Value} {base : Heap}  {f : Addr} {fd : FuncData} (F : FnP K "need_aside" s_need_aside f fd) (h_len : mg "len" = none) (h_any : mg "any" = none) (e_BadThing : ExF K mg "BadThing") (G_need_shares : Cal P w K mg base (cm K) "need_shares" 4 2 ["table", "shares"] f_need_shares) (G_is_number_below : Cal P w K mg base (cm K) "is_number_below" 1 2 ["value", "limit"] f_is_number_below) :
    FnOk P w K mg base (L2N.CX P w) 5 f fd ["table", "shares", "thing"] (SpF K (cm K) 3 f_need_aside) :=
  fnOk_of F sc_need_aside rfl (by decide) fun cdv A outer s H E hr => by
    exact (sb_cons (ss_expr (se_cal G_need_shares hr (by decide) (L2N.passes_call (L2N.takes_of rfl rfl rfl rfl) (fun _ _ _ _ h => h)) (alen_cons (alen_cons alen_nil)) (sa_cons (se_var 0) (sa_cons (se_var 1) sa_nil))))
      (sb_cons (ss_if (st_not (st_val (se_cal G_is_number_below hr (by decide) (L2N.passes_call (L2N.takes_of rfl rfl rfl rfl) (fun _ _ _ _ h => h)) (alen_cons (alen_cons alen_nil)) (sa_cons (se_var 2) (sa_cons (se_cb call_len lk_len (by rfl) h_len boot_len (sa_cons (se_ix (se_var 0) se_int (fun _ _ => rfl)) sa_nil)) sa_nil))))) (sb_one (ss_raise (c := "BadThing") rfl (L2N.takes_of rfl rfl rfl rfl) rfl PySem.F.excBase_ValueError e_BadThing.2.1 e_BadThing.1 e_BadThing.2.2.1 (raises_own e_BadThing.2.2.2.1 e_BadThing.2.2.2.2) rfl)) sb_nil)
      (sb_one (ss_if (st_val (se_cb (cr_any rfl) lk_any (by rfl) h_any (by decide +kernel) (sa_cons (se_lc (own := [("share", 3)]) rfl sc_need_aside.nd (sj_list (se_var 1)) (blkOk_by (N := ["table", "shares", "thing", "share"]) (sc := defScope s_need_aside) (by decide +kernel)) (by decide) (fun b => (sg_name 3 sc_need_aside.nd (by first | exact Or.inl rfl | exact Or.inr rfl))) (fun b => sts_nil) (fun b => (se_cmp (op_inD (room65 hr)) lk_in (se_var 2) (se_var 3) (by rfl)))) sa_nil))) (sb_one (ss_raise (c := "BadThing") rfl (L2N.takes_of rfl rfl rfl rfl) rfl PySem.F.excBase_ValueError e_BadThing.2.1 e_BadThing.1 e_BadThing.2.2.1 (raises_own e_BadThing.2.2.2.1 e_BadThing.2.2.2.2) rfl)) sb_nil))))
/-! #### steps -/
abbrev s_steps : Stmt := topS 33
theorem sc_steps : FnScope ["table", "shares", "thing", "told", "held", "heirs", "taker"] ["table", "shares", "thing"] (defScope s_steps) := ⟨rfl, rfl, rfl, by decide +kernel, rfl, by decide +kernel, by decide +kernel⟩
def d_steps : SD :=
      (seqD (exprD (callD f_need_aside (consA (varD 0) (consA (varD 1) (consA (varD 2) nilA)))))
      (seqD (asgD 3 (lstD nilA))
      (seqD (asgD 4 (varD 1))
      (seqD (asgD 5 (callD f_ring (consA (varD 0) (consA (varD 4) nilA))))
      (seqD (whileN (tstD (binR nNF (varD 5) (cD .none))) (seqD (appD 3 (ownQ 3) (tupD (consA (cD (.str (Str.ofString "ring"))) (consA (tuplD (consA (varD 5) nilA)) nilA))))
      (seqD (asgD 4 (callD f_turned (consA (varD 0) (consA (varD 4) (consA (varD 5) nilA)))))
      (asgD 5 (callD f_ring (consA (varD 0) (consA (varD 4) nilA)))))) 1000000)
      (seqD (asgD 6 (callD f_unenvied (consA (callD f_envies (consA (varD 0) (consA (varD 4) nilA))) (consA (lrgD (cbD lenF (consA (varD 0) nilA))) nilA))))
      (seqD (appD 3 (ownQ 3) (tupD (consA (cD (.str (Str.ofString "give"))) (consA (varD 2) (consA (varD 6) nilA)))))
      (retVD 3))))))))
def f_steps : List PD → Out R := denF 7 3 d_steps
set_option maxHeartbeats 4000000 in
theorem m_steps {P : Program} {w : World} {K : PySem.W.Frag} {mg : Str → Option Value} {base : Heap}  {f : Addr} {fd : FuncData} (F : FnP K "steps" s_steps f fd) (h_tuple : mg "tuple" = none) (h_len : mg "len" = none) (h_list : mg "list" = none) (h_range : mg "range" = none) (G_need_aside : Cal P w K mg base (cm K) "need_aside" 5 3 ["table", "shares", "thing"] f_need_aside) (G_ring : Cal P w K mg base (cm K) "ring" 6 2 ["table", "shares"] f_ring) (G_turned : Cal P w K mg base (cm K) "turned" 6 3 ["table", "shares", "heirs"] f_turned) (G_unenvied : Cal P w K mg base (cm K) "unenvied" 1 2 ["pairs", "heirs"] f_unenvied) (G_envies : Cal P w K mg base (cm K) "envies" 5 2 ["table", "shares"] f_envies) :
    FnOk P w K mg base (L2N.CX P w) 7 f fd ["table", "shares", "thing"] (SpF K (cm K) 3 f_steps) :=
  fnOk_of F sc_steps rfl (by decide) fun cdv A outer s H E hr => by
    exact (sb_cons (ss_expr (se_cal G_need_aside hr (by decide) (L2N.passes_call (L2N.takes_of rfl rfl rfl rfl) (fun _ _ _ _ h => h)) (alen_cons (alen_cons (alen_cons alen_nil))) (sa_cons (se_var 0) (sa_cons (se_var 1) (sa_cons (se_var 2) sa_nil)))))
      (sb_cons (ss_asg 3 sc_steps.nd (Or.inl rfl) (se_lst sa_nil))
      (sb_cons (ss_asg 4 sc_steps.nd (Or.inl rfl) (se_var 1))
      (sb_cons (ss_asg 5 sc_steps.nd (Or.inl rfl) (se_cal G_ring hr (by decide) (L2N.passes_call (L2N.takes_of rfl rfl rfl rfl) (fun _ _ _ _ h => h)) (alen_cons (alen_cons alen_nil)) (sa_cons (se_var 0) (sa_cons (se_var 4) sa_nil))))
      (sb_cons (ss_while 1000000 (passes_of rfl) (st_cmp op_notN lk_nN (se_var 5) se_non (nomark _)) (sb_cons (ss_app (spl_var 3) (se_tup (sa_cons se_str (sa_cons (se_tuple (by rfl) h_tuple (sa_cons (se_var 5) sa_nil)) sa_nil))) (hp := fun _ _ ho ha => pe_bm PySem.F.plainAttrs_list PySem.F.slot_list_append PySem.F.type_list_append mt_append ho ha))
      (sb_cons (ss_asg 4 sc_steps.nd (Or.inl rfl) (se_cal G_turned hr (by decide) (L2N.passes_call (L2N.takes_of rfl rfl rfl rfl) (fun _ _ _ _ h => h)) (alen_cons (alen_cons (alen_cons alen_nil))) (sa_cons (se_var 0) (sa_cons (se_var 4) (sa_cons (se_var 5) sa_nil)))))
      (sb_one (ss_asg 5 sc_steps.nd (Or.inl rfl) (se_cal G_ring hr (by decide) (L2N.passes_call (L2N.takes_of rfl rfl rfl rfl) (fun _ _ _ _ h => h)) (alen_cons (alen_cons alen_nil)) (sa_cons (se_var 0) (sa_cons (se_var 4) sa_nil))))))))
      (sb_cons (ss_asg 6 sc_steps.nd (Or.inl rfl) (se_cal G_unenvied hr (by decide) (L2N.passes_call (L2N.takes_of rfl rfl rfl rfl) (fun _ _ _ _ h => h)) (alen_cons (alen_cons alen_nil)) (sa_cons (se_cal G_envies hr (by decide) (L2N.passes_call (L2N.takes_of rfl rfl rfl rfl) (fun _ _ _ _ h => h)) (alen_cons (alen_cons alen_nil)) (sa_cons (se_var 0) (sa_cons (se_var 4) sa_nil))) (sa_cons (se_lrg rfl (by rfl) h_list (by rfl) h_range (se_cb call_len lk_len (by rfl) h_len boot_len (sa_cons (se_var 0) sa_nil))) sa_nil))))
      (sb_cons (ss_app (spl_var 3) (se_tup (sa_cons se_str (sa_cons (se_var 2) (sa_cons (se_var 6) sa_nil)))) (hp := fun _ _ ho ha => pe_bm PySem.F.plainAttrs_list PySem.F.slot_list_append PySem.F.type_list_append mt_append ho ha))
      (sb_one (ss_retV 3)))))))))
/-! #### awarded -/
abbrev s_awarded : Stmt := topS 34
theorem sc_awarded : FnScope ["table", "shares", "thing", "told", "held", "_", "heirs", "taker", "share"] ["table", "shares", "thing"] (defScope s_awarded) := ⟨rfl, rfl, rfl, by decide +kernel, rfl, by decide +kernel, by decide +kernel⟩
def d_awarded : SD :=
      (seqD (asgD 3 (callD f_steps (consA (varD 0) (consA (varD 1) (consA (varD 2) nilA)))))
      (seqD (asgD 4 (lcFD 0 (itJ (varD 1)) [8] (.nm 8) yesT (listD (consA (varD 8) nilA))))
      (seqD (forD (itD (slD (varD 3) noO (soO (unR negI (cD (.int 1)))))) (.tp [5, 6]) (asgD 4 (callD f_turned (consA (varD 0) (consA (varD 4) (consA (listD (consA (varD 6) nilA)) nilA))))))
      (seqD (asgD 7 (ixD (ixD (varD 3) (unR negI (cD (.int 1)))) (cD (.int 2))))
      (seqD (setD 4 (ownQ 4) (varD 7) (sortD (consA (addD (ixD (varD 4) (varD 7)) (lstD (consA (varD 2) nilA))) nilA)))
      (retVD 4))))))
def f_awarded : List PD → Out R := denF 9 3 d_awarded
set_option maxHeartbeats 4000000 in
theorem m_awarded {P : Program} {w : World} {K : PySem.W.Frag} {mg : Str → Option Value} {base : Heap}  {f : Addr} {fd : FuncData} (F : FnP K "awarded" s_awarded f fd) (h_list : mg "list" = none) (h_sorted : mg "sorted" = none) (G_steps : Cal P w K mg base (cm K) "steps" 7 3 ["table", "shares", "thing"] f_steps) (G_turned : Cal P w K mg base (cm K) "turned" 6 3 ["table", "shares", "heirs"] f_turned) :
    FnOk P w K mg base (L2N.CX P w) 8 f fd ["table", "shares", "thing"] (SpF K (cm K) 3 f_awarded) :=
  fnOk_of F sc_awarded rfl (by decide) fun cdv A outer s H E hr => by
    exact (sb_cons (ss_asg 3 sc_awarded.nd (Or.inl rfl) (se_cal G_steps hr (by decide) (L2N.passes_call (L2N.takes_of rfl rfl rfl rfl) (fun _ _ _ _ h => h)) (alen_cons (alen_cons (alen_cons alen_nil))) (sa_cons (se_var 0) (sa_cons (se_var 1) (sa_cons (se_var 2) sa_nil)))))
      (sb_cons (ss_asgLcF (own := [("share", 8)]) 0 4 rfl sc_awarded.nd rfl (sw_true rfl rfl rfl (by decide +kernel)) (sj_list (se_var 1)) (blkOk_by (N := ["table", "shares", "thing", "told", "held", "_", "heirs", "taker", "share"]) (sc := defScope s_awarded) (by decide +kernel)) (by decide) (fun b => (sg_name 8 sc_awarded.nd (by first | exact Or.inl rfl | exact Or.inr rfl))) (fun b => sts_nil) (fun b => (se_list (by rfl) h_list (sa_cons (se_var 8) sa_nil))))
      (sb_cons (ss_for (passes_of rfl) rfl (si_list (se_sl (se_var 3) so_none (so_some (se_neg se_int)))) (sg_tup rfl (sgs_cons 5 sc_awarded.nd (Or.inl rfl) (sgs_cons 6 sc_awarded.nd (Or.inl rfl) sgs_nil))) (sb_one (ss_asg 4 sc_awarded.nd (Or.inl rfl) (se_cal G_turned hr (by decide) (L2N.passes_call (L2N.takes_of rfl rfl rfl rfl) (fun _ _ _ _ h => h)) (alen_cons (alen_cons (alen_cons alen_nil))) (sa_cons (se_var 0) (sa_cons (se_var 4) (sa_cons (se_list (by rfl) h_list (sa_cons (se_var 6) sa_nil)) sa_nil)))))))
      (sb_cons (ss_asg 7 sc_awarded.nd (Or.inl rfl) (se_ix (se_ix (se_var 3) (se_neg se_int) (fun _ _ => rfl)) se_int (fun _ _ => rfl)))
      (sb_cons (ss_setI (spl_var 4) (se_var 7) (se_sorted (by rfl) h_sorted (sa_cons (se_add (se_ix (se_var 4) (se_var 7) (fun _ _ => rfl)) (se_lst (sa_cons (se_var 2) sa_nil))) sa_nil)) (fun _ _ ho hi => pg_sub ho hi set_list))
      (sb_one (ss_retV 4)))))))
/-! #### dealt -/
abbrev s_dealt : Stmt := topS 36
theorem sc_dealt : FnScope ["table", "shares", "thing", "_"] ["table"] (defScope s_dealt) := ⟨rfl, rfl, rfl, by decide +kernel, rfl, by decide +kernel, by decide +kernel⟩
def d_dealt : SD :=
      (seqD (exprD (callD f_need_table (consA (varD 0) nilA)))
      (seqD (asgD 1 (lcFD 0 (itJ (varD 0)) [3] (.nm 3) yesT (lstD nilA)))
      (seqD (forD (rg1D (cbD lenF (consA (ixD (varD 0) (cD (.int 0))) nilA))) (.nm 2) (asgD 1 (callD f_awarded (consA (varD 0) (consA (varD 1) (consA (varD 2) nilA))))))
      (retVD 1))))
def f_dealt : List PD → Out R := denF 4 1 d_dealt
set_option maxHeartbeats 4000000 in
theorem m_dealt {P : Program} {w : World} {K : PySem.W.Frag} {mg : Str → Option Value} {base : Heap}  {f : Addr} {fd : FuncData} (F : FnP K "dealt" s_dealt f fd) (h_len : mg "len" = none) (h_range : mg "range" = none) (G_need_table : Cal P w K mg base (cm K) "need_table" 3 1 ["table"] f_need_table) (G_awarded : Cal P w K mg base (cm K) "awarded" 8 3 ["table", "shares", "thing"] f_awarded) :
    FnOk P w K mg base (L2N.CX P w) 9 f fd ["table"] (SpF K (cm K) 1 f_dealt) :=
  fnOk_of F sc_dealt rfl (by decide) fun cdv A outer s H E hr => by
    exact (sb_cons (ss_expr (se_cal G_need_table hr (by decide) (L2N.passes_call (L2N.takes_of rfl rfl rfl rfl) (fun _ _ _ _ h => h)) (alen_cons alen_nil) (sa_cons (se_var 0) sa_nil)))
      (sb_cons (ss_asgLcF (own := [("_", 3)]) 0 1 rfl sc_dealt.nd rfl (sw_true rfl rfl rfl (by decide +kernel)) (sj_list (se_var 0)) (blkOk_by (N := ["table", "shares", "thing", "_"]) (sc := defScope s_dealt) (by decide +kernel)) (by decide) (fun b => (sg_name 3 sc_dealt.nd (by first | exact Or.inl rfl | exact Or.inr rfl))) (fun b => sts_nil) (fun b => (se_lst sa_nil)))
      (sb_cons (ss_for (passes_of rfl) rfl (si_rg1 (by rfl) h_range (se_cb call_len lk_len (by rfl) h_len boot_len (sa_cons (se_ix (se_var 0) se_int (fun _ _ => rfl)) sa_nil))) (sg_name 2 sc_dealt.nd (Or.inl rfl)) (sb_one (ss_asg 1 sc_dealt.nd (Or.inl rfl) (se_cal G_awarded hr (by decide) (L2N.passes_call (L2N.takes_of rfl rfl rfl rfl) (fun _ _ _ _ h => h)) (alen_cons (alen_cons (alen_cons alen_nil))) (sa_cons (se_var 0) (sa_cons (se_var 1) (sa_cons (se_var 2) sa_nil)))))))
      (sb_one (ss_retV 1)))))
/-! #### Estate___init__ -/
abbrev s_Estate___init__ : Stmt := (Z.clsB (topS 38)).getD 0 (.Pass ⟨0, 0, 0, 0⟩)
theorem sc_Estate___init__ : FnScope ["self", "heirs", "_"] ["self", "heirs"] (defScope s_Estate___init__) := ⟨rfl, rfl, rfl, by decide +kernel, rfl, by decide +kernel, by decide +kernel⟩
def d_Estate___init__ (Cl : Addr) : SD :=
      (seqD (ifD (orT (notT (tstD (callD f_is_number_below (consA (varD 1) (consA (addD (cD (.int 8)) (cD (.int 1))) nilA))))) (tstD (binR eqF (varD 1) (cD (.int 0))))) (fun _ => .ex "BadHeir") (fun ρ => .nx ρ))
      (seqD (setFD Cl 0 "_rows" (lcD (rg1D (varD 1)) [2] (.nm 2) yesT (lstD nilA)))
      (setFD Cl 0 "_held" (lcD (rg1D (varD 1)) [2] (.nm 2) yesT (lstD nilA)))))
def f_Estate___init__ (Cl : Addr) : Addr → List (Str × PD) → List PD → OB := denO Cl 3 1 (d_Estate___init__ Cl)
set_option maxHeartbeats 4000000 in
theorem m_Estate___init__ {P : Program} {w : World} {K : PySem.W.Frag} {mg : Str → Option Value} {base : Heap} {t_MOST_HEIRS : Tok} {f : Addr} {fd : FuncData} (F : FunD K "__init__" "Estate.__init__" (defArgs s_Estate___init__) (defBody s_Estate___init__) (defScope s_Estate___init__) [] [] f fd) (h_range : mg "range" = none) (hc_MOST_HEIRS : mg "MOST_HEIRS" = some (.int 8 t_MOST_HEIRS)) (e_BadHeir : ExF K mg "BadHeir") (G_is_number_below : Cal P w K mg base (cm K) "is_number_below" 1 2 ["value", "limit"] f_is_number_below) (O_Estate : ObjK K (He.ga K "Estate") ["_rows", "_held"]) :
    FnOk P w K mg base (L2N.CX P w) 2 f fd ["self", "heirs"] (SpO K (cm K) (He.ga K "Estate") 1 (f_Estate___init__ (He.ga K "Estate"))) :=
  fnOk_ofO F sc_Estate___init__ rfl (by decide) fun cdv A outer s H E hr => by
    exact (sb_cons (ss_if (sw_or (st_not (st_val (se_cal G_is_number_below hr (by decide) (L2N.passes_call (L2N.takes_of rfl rfl rfl rfl) (fun _ _ _ _ h => h)) (alen_cons (alen_cons alen_nil)) (sa_cons (se_var 1) (sa_cons (se_add (se_globI (by rfl) hc_MOST_HEIRS) se_int) sa_nil))))) (sw_or1 (st_cmp (op_eqD (room64 hr)) lk_eq (se_var 1) se_int (nomark _)))).t (sb_one (ss_raise (c := "BadHeir") rfl (L2N.takes_of rfl rfl rfl rfl) rfl PySem.F.excBase_ValueError e_BadHeir.2.1 e_BadHeir.1 e_BadHeir.2.2.1 (raises_own e_BadHeir.2.2.2.1 e_BadHeir.2.2.2.2) rfl)) sb_nil)
      (sb_cons (ss_setF 0 O_Estate List.mem_cons_self (se_lc (own := [("_", 2)]) rfl sc_Estate___init__.nd (si_rg1 (by rfl) h_range (se_var 1)).j (blkOk_by (N := ["self", "heirs", "_"]) (sc := defScope s_Estate___init__) (by decide +kernel)) (by decide) (fun b => (sg_name 2 sc_Estate___init__.nd (by first | exact Or.inl rfl | exact Or.inr rfl))) (fun b => sts_nil) (fun b => (se_lst sa_nil))))
      (sb_one (ss_setF 0 O_Estate (List.mem_cons_of_mem _ List.mem_cons_self) (se_lc (own := [("_", 2)]) rfl sc_Estate___init__.nd (si_rg1 (by rfl) h_range (se_var 1)).j (blkOk_by (N := ["self", "heirs", "_"]) (sc := defScope s_Estate___init__) (by decide +kernel)) (by decide) (fun b => (sg_name 2 sc_Estate___init__.nd (by first | exact Or.inl rfl | exact Or.inr rfl))) (fun b => sts_nil) (fun b => (se_lst sa_nil)))))))
/-! #### Estate_come -/
abbrev s_Estate_come : Stmt := (Z.clsB (topS 38)).getD 1 (.Pass ⟨0, 0, 0, 0⟩)
theorem sc_Estate_come : FnScope ["self", "worths", "thing", "row", "added"] ["self", "worths"] (defScope s_Estate_come) := ⟨rfl, rfl, rfl, by decide +kernel, rfl, by decide +kernel, by decide +kernel⟩
def d_Estate_come (Cl : Addr) : SD :=
      (seqD (exprX (pureX (callD f_need_worths (consA (varD 1) (consA (cbD lenF (consA (fldD Cl 0 "_rows") nilA)) nilA)))))
      (seqD (asgD 2 (cbD lenF (consA (ixD (fldD Cl 0 "_rows") (cD (.int 0))) nilA)))
      (seqD (ifD (tstD (binR eqF (varD 2) (cD (.int 40)))) (fun _ => .ex "Full") (fun ρ => .nx ρ))
      (seqD (setFD Cl 0 "_rows" (lcD (zpD (fldD Cl 0 "_rows") (varD 1)) [3, 4] (.tp [3, 4]) yesT (addD (varD 3) (lstD (consA (varD 4) nilA)))))
      (seqD (setFD Cl 0 "_held" (callD f_awarded (consA (fldD Cl 0 "_rows") (consA (fldD Cl 0 "_held") (consA (varD 2) nilA)))))
      (retX (pureX (varD 2))))))))
def f_Estate_come (Cl : Addr) : Addr → List (Str × PD) → List PD → OB := denO Cl 5 1 (d_Estate_come Cl)
set_option maxHeartbeats 4000000 in
theorem m_Estate_come {P : Program} {w : World} {K : PySem.W.Frag} {mg : Str → Option Value} {base : Heap} {t_MOST_THINGS : Tok} {f : Addr} {fd : FuncData} (F : FunD K "come" "Estate.come" (defArgs s_Estate_come) (defBody s_Estate_come) (defScope s_Estate_come) [] [] f fd) (h_len : mg "len" = none) (h_zip : mg "zip" = none) (hc_MOST_THINGS : mg "MOST_THINGS" = some (.int 40 t_MOST_THINGS)) (e_Full : ExF K mg "Full") (G_need_worths : Cal P w K mg base (cm K) "need_worths" 3 2 ["worths", "many"] f_need_worths) (G_awarded : Cal P w K mg base (cm K) "awarded" 8 3 ["table", "shares", "thing"] f_awarded) (O_Estate : ObjK K (He.ga K "Estate") ["_rows", "_held"]) :
    FnOk P w K mg base (L2N.CX P w) 9 f fd ["self", "worths"] (SpO K (cm K) (He.ga K "Estate") 1 (f_Estate_come (He.ga K "Estate"))) :=
  fnOk_ofO F sc_Estate_come rfl (by decide) fun cdv A outer s H E hr => by
    exact (sb_cons (ss_exprX (sx_pure (se_cal G_need_worths hr (by decide) (L2N.passes_call (L2N.takes_of rfl rfl rfl rfl) (fun _ _ _ _ h => h)) (alen_cons (alen_cons alen_nil)) (sa_cons (se_var 1) (sa_cons (se_cb call_len lk_len (by rfl) h_len boot_len (sa_cons (se_fld 0 O_Estate List.mem_cons_self) sa_nil)) sa_nil)))))
      (sb_cons (ss_asg 2 sc_Estate_come.nd (Or.inl rfl) (se_cb call_len lk_len (by rfl) h_len boot_len (sa_cons (se_ix (se_fld 0 O_Estate List.mem_cons_self) se_int (fun _ _ => rfl)) sa_nil)))
      (sb_cons (ss_if (st_cmp (op_eqD (room64 hr)) lk_eq (se_var 2) (se_globI (by rfl) hc_MOST_THINGS) (nomark _)) (sb_one (ss_raise (c := "Full") rfl (L2N.takes_of rfl rfl rfl rfl) rfl PySem.F.excBase_ValueError e_Full.2.1 e_Full.1 e_Full.2.2.1 (raises_own e_Full.2.2.2.1 e_Full.2.2.2.2) rfl)) sb_nil)
      (sb_cons (ss_setF 0 O_Estate List.mem_cons_self (se_lc (own := [("row", 3), ("added", 4)]) rfl sc_Estate_come.nd (si_zip (by rfl) h_zip (se_fld 0 O_Estate List.mem_cons_self) (se_var 1)).j (blkOk_by (N := ["self", "worths", "thing", "row", "added"]) (sc := defScope s_Estate_come) (by decide +kernel)) (by decide) (fun b => (sg_tup rfl (sgs_cons 3 sc_Estate_come.nd (by first | exact Or.inl rfl | exact Or.inr rfl) (sgs_cons 4 sc_Estate_come.nd (by first | exact Or.inl rfl | exact Or.inr rfl) sgs_nil)))) (fun b => sts_nil) (fun b => (se_add (se_var 3) (se_lst (sa_cons (se_var 4) sa_nil))))))
      (sb_cons (ss_setF 0 O_Estate (List.mem_cons_of_mem _ List.mem_cons_self) (se_cal G_awarded hr (by decide) (L2N.passes_call (L2N.takes_of rfl rfl rfl rfl) (fun _ _ _ _ h => h)) (alen_cons (alen_cons (alen_cons alen_nil))) (sa_cons (se_fld 0 O_Estate List.mem_cons_self) (sa_cons (se_fld 0 O_Estate (List.mem_cons_of_mem _ List.mem_cons_self)) (sa_cons (se_var 2) sa_nil)))))
      (sb_one (ss_retX (sx_pure (se_var 2)))))))))
/-! #### Estate_go -/
abbrev s_Estate_go : Stmt := (Z.clsB (topS 38)).getD 2 (.Pass ⟨0, 0, 0, 0⟩)
theorem sc_Estate_go : FnScope ["self", "heir", "rows", "held", "thing"] ["self", "heir"] (defScope s_Estate_go) := ⟨rfl, rfl, rfl, by decide +kernel, rfl, by decide +kernel, by decide +kernel⟩
def d_Estate_go (Cl : Addr) : SD :=
      (seqD (exprX (pureX (callD f_need_heir (consA (fldD Cl 0 "_rows") (consA (varD 1) nilA)))))
      (seqD (ifD (tstD (binR eqF (cbD lenF (consA (fldD Cl 0 "_rows") nilA)) (cD (.int 1)))) (fun _ => .ex "BadHeir") (fun ρ => .nx ρ))
      (seqD (asgD 2 (addD (slD (fldD Cl 0 "_rows") noO (soO (varD 1))) (slD (fldD Cl 0 "_rows") (soO (addD (varD 1) (cD (.int 1)))) noO)))
      (seqD (asgD 3 (addD (slD (fldD Cl 0 "_held") noO (soO (varD 1))) (slD (fldD Cl 0 "_held") (soO (addD (varD 1) (cD (.int 1)))) noO)))
      (seqD (forD (itD (ixD (fldD Cl 0 "_held") (varD 1))) (.nm 4) (asgD 3 (callD f_awarded (consA (varD 2) (consA (varD 3) (consA (varD 4) nilA))))))
      (seqD (frzD 2) (seqD (setFD Cl 0 "_rows" (varD 2))
      (seqD (frzD 3) (setFD Cl 0 "_held" (varD 3))))))))))
def f_Estate_go (Cl : Addr) : Addr → List (Str × PD) → List PD → OB := denO Cl 5 1 (d_Estate_go Cl)
set_option maxHeartbeats 4000000 in
theorem m_Estate_go {P : Program} {w : World} {K : PySem.W.Frag} {mg : Str → Option Value} {base : Heap}  {f : Addr} {fd : FuncData} (F : FunD K "go" "Estate.go" (defArgs s_Estate_go) (defBody s_Estate_go) (defScope s_Estate_go) [] [] f fd) (h_len : mg "len" = none) (e_BadHeir : ExF K mg "BadHeir") (G_need_heir : Cal P w K mg base (cm K) "need_heir" 2 2 ["table", "heir"] f_need_heir) (G_awarded : Cal P w K mg base (cm K) "awarded" 8 3 ["table", "shares", "thing"] f_awarded) (O_Estate : ObjK K (He.ga K "Estate") ["_rows", "_held"]) :
    FnOk P w K mg base (L2N.CX P w) 9 f fd ["self", "heir"] (SpO K (cm K) (He.ga K "Estate") 1 (f_Estate_go (He.ga K "Estate"))) :=
  fnOk_ofO F sc_Estate_go rfl (by decide) fun cdv A outer s H E hr => by
    exact (sb_cons (ss_exprX (sx_pure (se_cal G_need_heir hr (by decide) (L2N.passes_call (L2N.takes_of rfl rfl rfl rfl) (fun _ _ _ _ h => h)) (alen_cons (alen_cons alen_nil)) (sa_cons (se_fld 0 O_Estate List.mem_cons_self) (sa_cons (se_var 1) sa_nil)))))
      (sb_cons (ss_if (st_cmp (op_eqD (room64 hr)) lk_eq (se_cb call_len lk_len (by rfl) h_len boot_len (sa_cons (se_fld 0 O_Estate List.mem_cons_self) sa_nil)) se_int (nomark _)) (sb_one (ss_raise (c := "BadHeir") rfl (L2N.takes_of rfl rfl rfl rfl) rfl PySem.F.excBase_ValueError e_BadHeir.2.1 e_BadHeir.1 e_BadHeir.2.2.1 (raises_own e_BadHeir.2.2.2.1 e_BadHeir.2.2.2.2) rfl)) sb_nil)
      (sb_cons (ss_asg 2 sc_Estate_go.nd (Or.inl rfl) (se_add (se_sl (se_fld 0 O_Estate List.mem_cons_self) so_none (so_some (se_var 1))) (se_sl (se_fld 0 O_Estate List.mem_cons_self) (so_some (se_add (se_var 1) se_int)) so_none)))
      (sb_cons (ss_asg 3 sc_Estate_go.nd (Or.inl rfl) (se_add (se_sl (se_fld 0 O_Estate (List.mem_cons_of_mem _ List.mem_cons_self)) so_none (so_some (se_var 1))) (se_sl (se_fld 0 O_Estate (List.mem_cons_of_mem _ List.mem_cons_self)) (so_some (se_add (se_var 1) se_int)) so_none)))
      (sb_cons (ss_for (passes_of rfl) rfl (si_list (se_ix (se_fld 0 O_Estate (List.mem_cons_of_mem _ List.mem_cons_self)) (se_var 1) (fun _ _ => rfl))) (sg_name 4 sc_Estate_go.nd (Or.inl rfl)) (sb_one (ss_asg 3 sc_Estate_go.nd (Or.inl rfl) (se_cal G_awarded hr (by decide) (L2N.passes_call (L2N.takes_of rfl rfl rfl rfl) (fun _ _ _ _ h => h)) (alen_cons (alen_cons (alen_cons alen_nil))) (sa_cons (se_var 2) (sa_cons (se_var 3) (sa_cons (se_var 4) sa_nil)))))))
      (sb_frz 2 (sb_cons (ss_setF 0 O_Estate List.mem_cons_self (se_var 2))
      (sb_frz 3 (sb_one (ss_setF 0 O_Estate (List.mem_cons_of_mem _ List.mem_cons_self) (se_var 3)))))))))))
/-! #### Estate_join -/
abbrev s_Estate_join : Stmt := (Z.clsB (topS 38)).getD 3 (.Pass ⟨0, 0, 0, 0⟩)
theorem sc_Estate_join : FnScope ["self", "worths", "heir"] ["self", "worths"] (defScope s_Estate_join) := ⟨rfl, rfl, rfl, by decide +kernel, rfl, by decide +kernel, by decide +kernel⟩
def d_Estate_join (Cl : Addr) : SD :=
      (seqD (exprX (pureX (callD f_need_worths (consA (varD 1) (consA (cbD lenF (consA (ixD (fldD Cl 0 "_rows") (cD (.int 0))) nilA)) nilA)))))
      (seqD (asgD 2 (cbD lenF (consA (fldD Cl 0 "_rows") nilA)))
      (seqD (ifD (tstD (binR eqF (varD 2) (cD (.int 8)))) (fun _ => .ex "Full") (fun ρ => .nx ρ))
      (seqD (setFD Cl 0 "_rows" (addD (fldD Cl 0 "_rows") (lstD (consA (listD (consA (varD 1) nilA)) nilA))))
      (seqD (setFD Cl 0 "_held" (callD f_dealt (consA (fldD Cl 0 "_rows") nilA)))
      (retX (pureX (varD 2))))))))
def f_Estate_join (Cl : Addr) : Addr → List (Str × PD) → List PD → OB := denO Cl 3 1 (d_Estate_join Cl)
set_option maxHeartbeats 4000000 in
theorem m_Estate_join {P : Program} {w : World} {K : PySem.W.Frag} {mg : Str → Option Value} {base : Heap} {t_MOST_HEIRS : Tok} {f : Addr} {fd : FuncData} (F : FunD K "join" "Estate.join" (defArgs s_Estate_join) (defBody s_Estate_join) (defScope s_Estate_join) [] [] f fd) (h_len : mg "len" = none) (h_list : mg "list" = none) (hc_MOST_HEIRS : mg "MOST_HEIRS" = some (.int 8 t_MOST_HEIRS)) (e_Full : ExF K mg "Full") (G_need_worths : Cal P w K mg base (cm K) "need_worths" 3 2 ["worths", "many"] f_need_worths) (G_dealt : Cal P w K mg base (cm K) "dealt" 9 1 ["table"] f_dealt) (O_Estate : ObjK K (He.ga K "Estate") ["_rows", "_held"]) :
    FnOk P w K mg base (L2N.CX P w) 10 f fd ["self", "worths"] (SpO K (cm K) (He.ga K "Estate") 1 (f_Estate_join (He.ga K "Estate"))) :=
  fnOk_ofO F sc_Estate_join rfl (by decide) fun cdv A outer s H E hr => by
    exact (sb_cons (ss_exprX (sx_pure (se_cal G_need_worths hr (by decide) (L2N.passes_call (L2N.takes_of rfl rfl rfl rfl) (fun _ _ _ _ h => h)) (alen_cons (alen_cons alen_nil)) (sa_cons (se_var 1) (sa_cons (se_cb call_len lk_len (by rfl) h_len boot_len (sa_cons (se_ix (se_fld 0 O_Estate List.mem_cons_self) se_int (fun _ _ => rfl)) sa_nil)) sa_nil)))))
      (sb_cons (ss_asg 2 sc_Estate_join.nd (Or.inl rfl) (se_cb call_len lk_len (by rfl) h_len boot_len (sa_cons (se_fld 0 O_Estate List.mem_cons_self) sa_nil)))
      (sb_cons (ss_if (st_cmp (op_eqD (room64 hr)) lk_eq (se_var 2) (se_globI (by rfl) hc_MOST_HEIRS) (nomark _)) (sb_one (ss_raise (c := "Full") rfl (L2N.takes_of rfl rfl rfl rfl) rfl PySem.F.excBase_ValueError e_Full.2.1 e_Full.1 e_Full.2.2.1 (raises_own e_Full.2.2.2.1 e_Full.2.2.2.2) rfl)) sb_nil)
      (sb_cons (ss_setF 0 O_Estate List.mem_cons_self (se_add (se_fld 0 O_Estate List.mem_cons_self) (se_lst (sa_cons (se_list (by rfl) h_list (sa_cons (se_var 1) sa_nil)) sa_nil))))
      (sb_cons (ss_setF 0 O_Estate (List.mem_cons_of_mem _ List.mem_cons_self) (se_cal G_dealt hr (by decide) (L2N.passes_call (L2N.takes_of rfl rfl rfl rfl) (fun _ _ _ _ h => h)) (alen_cons alen_nil) (sa_cons (se_fld 0 O_Estate List.mem_cons_self) sa_nil)))
      (sb_one (ss_retX (sx_pure (se_var 2)))))))))
/-! #### Estate_shares -/
abbrev s_Estate_shares : Stmt := (Z.clsB (topS 38)).getD 4 (.Pass ⟨0, 0, 0, 0⟩)
theorem sc_Estate_shares : FnScope ["self", "share"] ["self"] (defScope s_Estate_shares) := ⟨rfl, rfl, rfl, by decide +kernel, rfl, by decide +kernel, by decide +kernel⟩
def d_Estate_shares (Cl : Addr) : SD :=
      (retX (pureX (lcFD 0 (itJ (fldD Cl 0 "_held")) [1] (.nm 1) yesT (listD (consA (varD 1) nilA)))))
def f_Estate_shares (Cl : Addr) : Addr → List (Str × PD) → List PD → OB := denO Cl 2 0 (d_Estate_shares Cl)
set_option maxHeartbeats 4000000 in
theorem m_Estate_shares {P : Program} {w : World} {K : PySem.W.Frag} {mg : Str → Option Value} {base : Heap}  {f : Addr} {fd : FuncData} (F : FunD K "shares" "Estate.shares" (defArgs s_Estate_shares) (defBody s_Estate_shares) (defScope s_Estate_shares) [] [] f fd) (h_list : mg "list" = none) (O_Estate : ObjK K (He.ga K "Estate") ["_rows", "_held"]) :
    FnOk P w K mg base (L2N.CX P w) 1 f fd ["self"] (SpO K (cm K) (He.ga K "Estate") 0 (f_Estate_shares (He.ga K "Estate"))) :=
  fnOk_ofO F sc_Estate_shares rfl (by decide) fun cdv A outer s H E hr => by
    exact (sb_one (ss_retX (sx_pure (se_lcF (own := [("share", 1)]) 0 rfl sc_Estate_shares.nd (sj_list (se_fld 0 O_Estate (List.mem_cons_of_mem _ List.mem_cons_self))) (blkOk_by (N := ["self", "share"]) (sc := defScope s_Estate_shares) (by decide +kernel)) (by decide) (fun b => (sg_name 1 sc_Estate_shares.nd (by first | exact Or.inl rfl | exact Or.inr rfl))) (fun b => sts_nil) (fun b => (se_list (by rfl) h_list (sa_cons (se_var 1) sa_nil)))))))
/-! #### Estate_table -/
abbrev s_Estate_table : Stmt := (Z.clsB (topS 38)).getD 5 (.Pass ⟨0, 0, 0, 0⟩)
theorem sc_Estate_table : FnScope ["self", "row"] ["self"] (defScope s_Estate_table) := ⟨rfl, rfl, rfl, by decide +kernel, rfl, by decide +kernel, by decide +kernel⟩
def d_Estate_table (Cl : Addr) : SD :=
      (retX (pureX (lcD (itJ (fldD Cl 0 "_rows")) [1] (.nm 1) yesT (listD (consA (varD 1) nilA)))))
def f_Estate_table (Cl : Addr) : Addr → List (Str × PD) → List PD → OB := denO Cl 2 0 (d_Estate_table Cl)
set_option maxHeartbeats 4000000 in
theorem m_Estate_table {P : Program} {w : World} {K : PySem.W.Frag} {mg : Str → Option Value} {base : Heap}  {f : Addr} {fd : FuncData} (F : FunD K "table" "Estate.table" (defArgs s_Estate_table) (defBody s_Estate_table) (defScope s_Estate_table) [] [] f fd) (h_list : mg "list" = none) (O_Estate : ObjK K (He.ga K "Estate") ["_rows", "_held"]) :
    FnOk P w K mg base (L2N.CX P w) 1 f fd ["self"] (SpO K (cm K) (He.ga K "Estate") 0 (f_Estate_table (He.ga K "Estate"))) :=
  fnOk_ofO F sc_Estate_table rfl (by decide) fun cdv A outer s H E hr => by
    exact (sb_one (ss_retX (sx_pure (se_lc (own := [("row", 1)]) rfl sc_Estate_table.nd (sj_list (se_fld 0 O_Estate List.mem_cons_self)) (blkOk_by (N := ["self", "row"]) (sc := defScope s_Estate_table) (by decide +kernel)) (by decide) (fun b => (sg_name 1 sc_Estate_table.nd (by first | exact Or.inl rfl | exact Or.inr rfl))) (fun b => sts_nil) (fun b => (se_list (by rfl) h_list (sa_cons (se_var 1) sa_nil)))))))
/-! #### _law_at -/
abbrev s__law_at : Stmt := topS 40
theorem sc__law_at : FnScope ["_law_script", "_law_k"] ["_law_script", "_law_k"] (defScope s__law_at) := ⟨rfl, rfl, rfl, by decide +kernel, rfl, by decide +kernel, by decide +kernel⟩
def d__law_at : SD :=
      (seqD (ifD (tstD (binR ltI (varD 1) (cbD lenF (consA (varD 0) nilA)))) (retD (ixD (varD 0) (varD 1))) (fun ρ => .nx ρ))
      (retD (cD (.int 0))))
def f__law_at : List PD → Out R := denF 2 2 d__law_at
set_option maxHeartbeats 4000000 in
theorem m__law_at {P : Program} {w : World} {K : PySem.W.Frag} {mg : Str → Option Value} {base : Heap}  {f : Addr} {fd : FuncData} (F : FnP K "_law_at" s__law_at f fd) (h_len : mg "len" = none) :
    FnOk P w K mg base (L2N.CX P w) 1 f fd ["_law_script", "_law_k"] (SpF K (cm K) 2 f__law_at) :=
  fnOk_of F sc__law_at rfl (by decide) fun cdv A outer s H E hr => by
    exact (sb_cons (ss_if (st_cmp op_lt lk_lt (se_var 1) (se_cb call_len lk_len (by rfl) h_len boot_len (sa_cons (se_var 0) sa_nil)) (nomark _)) (sb_one (ss_ret (se_ix (se_var 0) (se_var 1) (fun _ _ => rfl)))) sb_nil)
      (sb_one (ss_ret se_int)))
/-! #### _law_mixed -/
abbrev s__law_mixed : Stmt := topS 41
theorem sc__law_mixed : FnScope ["_law_cell", "_law_k"] ["_law_cell", "_law_k"] (defScope s__law_mixed) := ⟨rfl, rfl, rfl, by decide +kernel, rfl, by decide +kernel, by decide +kernel⟩
def d__law_mixed : SD :=
      (retD (binR modI (binR mulI (addD (addD (varD 0) (binR mulI (cD (.int 7919)) (varD 1))) (cD (.int 17))) (cD (.int 48271))) (cD (.int 2147483647))))
def f__law_mixed : List PD → Out R := denF 2 2 d__law_mixed
set_option maxHeartbeats 4000000 in
theorem m__law_mixed {P : Program} {w : World} {K : PySem.W.Frag} {mg : Str → Option Value} {base : Heap}  {f : Addr} {fd : FuncData} (F : FnP K "_law_mixed" s__law_mixed f fd)  :
    FnOk P w K mg base (L2N.CX P w) 1 f fd ["_law_cell", "_law_k"] (SpF K (cm K) 2 f__law_mixed) :=
  fnOk_of F sc__law_mixed rfl (by decide) fun cdv A outer s H E hr => by
    exact (sb_one (ss_ret (se_op op_mod lk_mod (se_op op_mul lk_mul (se_add (se_add (se_var 0) (se_op op_mul lk_mul se_int (se_var 1))) se_int) se_int) se_int)))
/-! #### _law_sum -/
abbrev s__law_sum : Stmt := topS 42
theorem sc__law_sum : FnScope ["_law_row", "_law_things", "_law_found", "_law_thing"] ["_law_row", "_law_things"] (defScope s__law_sum) := ⟨rfl, rfl, rfl, by decide +kernel, rfl, by decide +kernel, by decide +kernel⟩
def d__law_sum : SD :=
      (seqD (asgD 2 (cD (.int 0)))
      (seqD (forD (itD (varD 1)) (.nm 3) (asgD 2 (addD (varD 2) (ixD (varD 0) (varD 3)))))
      (retVD 2)))
def f__law_sum : List PD → Out R := denF 4 2 d__law_sum
set_option maxHeartbeats 4000000 in
theorem m__law_sum {P : Program} {w : World} {K : PySem.W.Frag} {mg : Str → Option Value} {base : Heap}  {f : Addr} {fd : FuncData} (F : FnP K "_law_sum" s__law_sum f fd)  :
    FnOk P w K mg base (L2N.CX P w) 1 f fd ["_law_row", "_law_things"] (SpF K (cm K) 2 f__law_sum) :=
  fnOk_of F sc__law_sum rfl (by decide) fun cdv A outer s H E hr => by
    exact (sb_cons (ss_asg 2 sc__law_sum.nd (Or.inl rfl) se_int)
      (sb_cons (ss_for (passes_of rfl) rfl (si_list (se_var 1)) (sg_name 3 sc__law_sum.nd (Or.inl rfl)) (sb_one (ss_asg 2 sc__law_sum.nd (Or.inl rfl) (se_add (se_var 2) (se_ix (se_var 0) (se_var 3) (fun _ _ => rfl))))))
      (sb_one (ss_retV 2))))
/-! #### _law_copy -/
abbrev s__law_copy : Stmt := topS 43
theorem sc__law_copy : FnScope ["_law_rows", "_law_row"] ["_law_rows"] (defScope s__law_copy) := ⟨rfl, rfl, rfl, by decide +kernel, rfl, by decide +kernel, by decide +kernel⟩
def d__law_copy : SD :=
      (retD (lcFD 0 (itJ (varD 0)) [1] (.nm 1) yesT (listD (consA (varD 1) nilA))))
def f__law_copy : List PD → Out R := denF 2 1 d__law_copy
set_option maxHeartbeats 4000000 in
theorem m__law_copy {P : Program} {w : World} {K : PySem.W.Frag} {mg : Str → Option Value} {base : Heap}  {f : Addr} {fd : FuncData} (F : FnP K "_law_copy" s__law_copy f fd) (h_list : mg "list" = none) :
    FnOk P w K mg base (L2N.CX P w) 1 f fd ["_law_rows"] (SpF K (cm K) 1 f__law_copy) :=
  fnOk_of F sc__law_copy rfl (by decide) fun cdv A outer s H E hr => by
    exact (sb_one (ss_ret (se_lcF (own := [("_law_row", 1)]) 0 rfl sc__law_copy.nd (sj_list (se_var 0)) (blkOk_by (N := ["_law_rows", "_law_row"]) (sc := defScope s__law_copy) (by decide +kernel)) (by decide) (fun b => (sg_name 1 sc__law_copy.nd (by first | exact Or.inl rfl | exact Or.inr rfl))) (fun b => sts_nil) (fun b => (se_list (by rfl) h_list (sa_cons (se_var 1) sa_nil))))))
/-! #### _law_worth -/
abbrev s__law_worth : Stmt := topS 44
theorem sc__law_worth : FnScope ["_law_number"] ["_law_number"] (defScope s__law_worth) := ⟨rfl, rfl, rfl, by decide +kernel, rfl, by decide +kernel, by decide +kernel⟩
def d__law_worth : SD :=
      (retD (ixD (lstD (consA (binR modI (binR divI (varD 0) (cD (.int 4))) (cD (.int 1000001))) (consA (binR subI (cD (.int 1000000)) (binR modI (binR divI (varD 0) (cD (.int 4))) (cD (.int 3)))) (consA (binR modI (binR divI (varD 0) (cD (.int 4))) (cD (.int 7))) (consA (binR modI (binR divI (varD 0) (cD (.int 4))) (cD (.int 40))) nilA))))) (binR modI (varD 0) (cD (.int 4)))))
def f__law_worth : List PD → Out R := denF 1 1 d__law_worth
set_option maxHeartbeats 4000000 in
theorem m__law_worth {P : Program} {w : World} {K : PySem.W.Frag} {mg : Str → Option Value} {base : Heap}  {f : Addr} {fd : FuncData} (F : FnP K "_law_worth" s__law_worth f fd)  :
    FnOk P w K mg base (L2N.CX P w) 1 f fd ["_law_number"] (SpF K (cm K) 1 f__law_worth) :=
  fnOk_of F sc__law_worth rfl (by decide) fun cdv A outer s H E hr => by
    exact (sb_one (ss_ret (se_ix (se_lst (sa_cons (se_op op_mod lk_mod (se_op op_fdiv lk_div (se_var 0) se_int) se_int) (sa_cons (se_op op_sub lk_sub se_int (se_op op_mod lk_mod (se_op op_fdiv lk_div (se_var 0) se_int) se_int)) (sa_cons (se_op op_mod lk_mod (se_op op_fdiv lk_div (se_var 0) se_int) se_int) (sa_cons (se_op op_mod lk_mod (se_op op_fdiv lk_div (se_var 0) se_int) se_int) sa_nil))))) (se_op op_mod lk_mod (se_var 0) se_int) (fun _ _ => rfl))))
/-! #### _law_to -/
abbrev s__law_to : Stmt := topS 45
theorem sc__law_to : FnScope ["_law_row", "_law_held", "_law_sums", "_law_share"] ["_law_row", "_law_held"] (defScope s__law_to) := ⟨rfl, rfl, rfl, by decide +kernel, rfl, by decide +kernel, by decide +kernel⟩
def d__law_to : SD :=
      (seqD (asgD 2 (lcD (itJ (varD 1)) [3] (.nm 3) yesT (callD f__law_sum (consA (varD 0) (consA (varD 3) nilA)))))
      (retD (indexD (varD 2) (cbD minF (consA (varD 2) nilA)))))
def f__law_to : List PD → Out R := denF 4 2 d__law_to
set_option maxHeartbeats 4000000 in
theorem m__law_to {P : Program} {w : World} {K : PySem.W.Frag} {mg : Str → Option Value} {base : Heap}  {f : Addr} {fd : FuncData} (F : FnP K "_law_to" s__law_to f fd) (h_min : mg "min" = none) (G__law_sum : Cal P w K mg base (cm K) "_law_sum" 1 2 ["_law_row", "_law_things"] f__law_sum) :
    FnOk P w K mg base (L2N.CX P w) 2 f fd ["_law_row", "_law_held"] (SpF K (cm K) 2 f__law_to) :=
  fnOk_of F sc__law_to rfl (by decide) fun cdv A outer s H E hr => by
    exact (sb_cons (ss_asgLc (own := [("_law_share", 3)])  2 rfl sc__law_to.nd rfl (sw_true rfl rfl rfl (by decide +kernel)) (sj_list (se_var 1)) (blkOk_by (N := ["_law_row", "_law_held", "_law_sums", "_law_share"]) (sc := defScope s__law_to) (by decide +kernel)) (by decide) (fun b => (sg_name 3 sc__law_to.nd (by first | exact Or.inl rfl | exact Or.inr rfl))) (fun b => sts_nil) (fun b => (se_cal G__law_sum hr (by decide) passN (alen_cons (alen_cons alen_nil)) (sa_cons (se_var 0) (sa_cons (se_var 3) sa_nil)))))
      (sb_one (ss_ret (se_index (room65 hr) (se_var 2) (se_cb (cr_min rfl) lk_min (by rfl) h_min (by decide +kernel) (sa_cons (se_var 2) sa_nil)) (fun _ _ ho ha => pe_bm PySem.F.plainAttrs_list PySem.F.slot_list_index PySem.F.type_list_index (mt_indexD (room65 hr)) ho ha)))))
/-! #### _law_put -/
abbrev s__law_put : Stmt := topS 46
theorem sc__law_put : FnScope ["_law_row", "_law_held", "_law_things", "_law_thing", "_law_heir"] ["_law_row", "_law_held", "_law_things"] (defScope s__law_put) := ⟨rfl, rfl, rfl, by decide +kernel, rfl, by decide +kernel, by decide +kernel⟩
def d__law_put : SD :=
      (seqD (asgD 1 (callD f__law_copy (consA (varD 1) nilA)))
      (seqD (forD (itD (varD 2)) (.nm 3) (seqD (asgD 4 (callD f__law_to (consA (varD 0) (consA (varD 1) nilA))))
      (setD 1 (ownQ 1) (varD 4) (sortD (consA (addD (ixD (varD 1) (varD 4)) (lstD (consA (varD 3) nilA))) nilA)))))
      (retVD 1)))
def f__law_put : List PD → Out R := denF 5 3 d__law_put
set_option maxHeartbeats 4000000 in
theorem m__law_put {P : Program} {w : World} {K : PySem.W.Frag} {mg : Str → Option Value} {base : Heap}  {f : Addr} {fd : FuncData} (F : FnP K "_law_put" s__law_put f fd) (h_sorted : mg "sorted" = none) (G__law_copy : Cal P w K mg base (cm K) "_law_copy" 1 1 ["_law_rows"] f__law_copy) (G__law_to : Cal P w K mg base (cm K) "_law_to" 2 2 ["_law_row", "_law_held"] f__law_to) :
    FnOk P w K mg base (L2N.CX P w) 3 f fd ["_law_row", "_law_held", "_law_things"] (SpF K (cm K) 3 f__law_put) :=
  fnOk_of F sc__law_put rfl (by decide) fun cdv A outer s H E hr => by
    exact (sb_cons (ss_asg 1 sc__law_put.nd (Or.inl rfl) (se_cal G__law_copy hr (by decide) (L2N.passes_call (L2N.takes_of rfl rfl rfl rfl) (fun _ _ _ _ h => h)) (alen_cons alen_nil) (sa_cons (se_var 1) sa_nil)))
      (sb_cons (ss_for (passes_of rfl) rfl (si_list (se_var 2)) (sg_name 3 sc__law_put.nd (Or.inl rfl)) (sb_cons (ss_asg 4 sc__law_put.nd (Or.inl rfl) (se_cal G__law_to hr (by decide) (L2N.passes_call (L2N.takes_of rfl rfl rfl rfl) (fun _ _ _ _ h => h)) (alen_cons (alen_cons alen_nil)) (sa_cons (se_var 0) (sa_cons (se_var 1) sa_nil))))
      (sb_one (ss_setI (spl_var 1) (se_var 4) (se_sorted (by rfl) h_sorted (sa_cons (se_add (se_ix (se_var 1) (se_var 4) (fun _ _ => rfl)) (se_lst (sa_cons (se_var 3) sa_nil))) sa_nil)) (fun _ _ ho hi => pg_sub ho hi set_list)))))
      (sb_one (ss_retV 1))))
/-! #### _law_moved -/
abbrev s__law_moved : Stmt := topS 47
theorem sc__law_moved : FnScope ["_law_estate", "_law_cell", "_law_row", "_law_held", "_law_number", "_law_heirs", "_law_handed", "_law_heir"] ["_law_estate", "_law_cell", "_law_row", "_law_held"] (defScope s__law_moved) := ⟨rfl, rfl, rfl, by decide +kernel, rfl, by decide +kernel, by decide +kernel⟩
def d__law_moved (Cl : Addr) : SD :=
      (seqD (asgD 4 (binR divI (callD f__law_mixed (consA (varD 1) (consA (cD (.int 1)) nilA))) (cD (.int 3))))
      (seqD (asgD 5 (cbD lenF (consA (varD 3) nilA)))
      (seqD (ifD (andT (tstD (binR ltI (binR modI (varD 1) (cD (.int 8))) (cD (.int 5)))) (tstD (binR ltI (cbD lenF (consA (varD 2) nilA)) (cD (.int 14))))) (seqD (asgD 6 (fzD (repD (lstD (consA (callD f__law_worth (consA (varD 4) nilA)) nilA)) (varD 5))))
      (seqD (ifX (tstX (binX neF (callMt Cl "come" (f_Estate_come Cl) 0 (consA (varD 6) nilA)) (cbD lenF (consA (varD 2) nilA)))) (retX (pureX (cD .none))) (fun ρ => .nx ρ))
      (seqD (asgD 2 (fzD (addD (varD 2) (lstD (consA (callD f__law_worth (consA (varD 4) nilA)) nilA)))))
      (retX (pureX (tupD (consA (varD 2) (consA (callD f__law_put (consA (varD 2) (consA (varD 3) (consA (lstD (consA (binR subI (cbD lenF (consA (varD 2) nilA)) (cD (.int 1))) nilA)) nilA)))) nilA)))))))) (fun ρ => .nx ρ))
      (seqD (ifD (andT (tstD (binR ltI (binR modI (varD 1) (cD (.int 8))) (cD (.int 7)))) (tstD (binR gtI (varD 5) (cD (.int 1))))) (seqD (asgD 7 (binR modI (varD 4) (varD 5)))
      (seqD (ifX (tstX (binX nNF (callMt Cl "go" (f_Estate_go Cl) 0 (consA (varD 7) nilA)) (cD .none))) (retX (pureX (cD .none))) (fun ρ => .nx ρ))
      (retX (pureX (tupD (consA (varD 2) (consA (callD f__law_put (consA (varD 2) (consA (addD (slD (varD 3) noO (soO (varD 7))) (slD (varD 3) (soO (addD (varD 7) (cD (.int 1)))) noO)) (consA (ixD (varD 3) (varD 7)) nilA)))) nilA))))))) (fun ρ => .nx ρ))
      (seqD (ifD (tstD (binR ltI (varD 5) (cD (.int 8)))) (seqD (ifX (tstX (binX neF (callMt Cl "join" (f_Estate_join Cl) 0 (consA (listD (consA (varD 2) nilA)) nilA)) (varD 5))) (retX (pureX (cD .none))) (fun ρ => .nx ρ))
      (retX (pureX (tupD (consA (varD 2) (consA (callD f__law_put (consA (varD 2) (consA (lcD (rg1D (addD (varD 5) (cD (.int 1)))) [7] (.nm 7) yesT (lstD nilA)) (consA (lrgD (cbD lenF (consA (varD 2) nilA))) nilA)))) nilA)))))) (fun ρ => .nx ρ))
      (retX (pureX (tupD (consA (varD 2) (consA (varD 3) nilA))))))))))
def f__law_moved (Cl : Addr) : Addr → List (Str × PD) → List PD → OB := denO Cl 8 3 (d__law_moved Cl)
set_option maxHeartbeats 4000000 in
theorem m__law_moved {P : Program} {w : World} {K : PySem.W.Frag} {mg : Str → Option Value} {base : Heap}  {f : Addr} {fd : FuncData} (F : FnP K "_law_moved" s__law_moved f fd) (h_len : mg "len" = none) (h_list : mg "list" = none) (h_range : mg "range" = none) (G__law_mixed : Cal P w K mg base (cm K) "_law_mixed" 1 2 ["_law_cell", "_law_k"] f__law_mixed) (G__law_worth : Cal P w K mg base (cm K) "_law_worth" 1 1 ["_law_number"] f__law_worth) (G_Estate_come : CalMt P w K mg base (cm K) (He.ga K "Estate") "come" 9 1 ["self", "worths"] (f_Estate_come (He.ga K "Estate"))) (G__law_put : Cal P w K mg base (cm K) "_law_put" 3 3 ["_law_row", "_law_held", "_law_things"] f__law_put) (G_Estate_go : CalMt P w K mg base (cm K) (He.ga K "Estate") "go" 9 1 ["self", "heir"] (f_Estate_go (He.ga K "Estate"))) (G_Estate_join : CalMt P w K mg base (cm K) (He.ga K "Estate") "join" 10 1 ["self", "worths"] (f_Estate_join (He.ga K "Estate"))) :
    FnOk P w K mg base (L2N.CX P w) 12 f fd ["_law_estate", "_law_cell", "_law_row", "_law_held"] (SpO K (cm K) (He.ga K "Estate") 3 (f__law_moved (He.ga K "Estate"))) :=
  fnOk_ofO F sc__law_moved rfl (by decide) fun cdv A outer s H E hr => by
    exact (sb_cons (ss_asg 4 sc__law_moved.nd (Or.inl rfl) (se_op op_fdiv lk_div (se_cal G__law_mixed hr (by decide) (L2N.passes_call (L2N.takes_of rfl rfl rfl rfl) (fun _ _ _ _ h => h)) (alen_cons (alen_cons alen_nil)) (sa_cons (se_var 1) (sa_cons se_int sa_nil))) se_int))
      (sb_cons (ss_asg 5 sc__law_moved.nd (Or.inl rfl) (se_cb call_len lk_len (by rfl) h_len boot_len (sa_cons (se_var 3) sa_nil)))
      (sb_cons (ss_if (sw_and (st_cmp op_lt lk_lt (se_op op_mod lk_mod (se_var 1) se_int) se_int (nomark _)) (sw_and1 (st_cmp op_lt lk_lt (se_cb call_len lk_len (by rfl) h_len boot_len (sa_cons (se_var 2) sa_nil)) se_int (nomark _)))).t (sb_cons (ss_asg 6 sc__law_moved.nd (Or.inl rfl) (se_fz (se_rep (se_lst (sa_cons (se_cal G__law_worth hr (by decide) (L2N.passes_call (L2N.takes_of rfl rfl rfl rfl) (fun _ _ _ _ h => h)) (alen_cons alen_nil) (sa_cons (se_var 4) sa_nil)) sa_nil)) (se_var 5))))
      (sb_cons (ss_ifX (stx_cmp (op_neD (room64 hr)) lk_ne (sx_callMt G_Estate_come hr (by decide) (L2N.passes_call (L2N.takes_of rfl rfl rfl rfl) (fun _ _ _ _ h => h)) (alen_cons alen_nil) (sa_cons (se_var 6) sa_nil)) (se_cb call_len lk_len (by rfl) h_len boot_len (sa_cons (se_var 2) sa_nil)) (nomark _)) (sb_one (ss_retX (sx_pure se_non))) sb_nil)
      (sb_cons (ss_asg 2 sc__law_moved.nd (Or.inl rfl) (se_fz (se_add (se_var 2) (se_lst (sa_cons (se_cal G__law_worth hr (by decide) (L2N.passes_call (L2N.takes_of rfl rfl rfl rfl) (fun _ _ _ _ h => h)) (alen_cons alen_nil) (sa_cons (se_var 4) sa_nil)) sa_nil)))))
      (sb_one (ss_retX (sx_pure (se_tup (sa_cons (se_var 2) (sa_cons (se_cal G__law_put hr (by decide) (L2N.passes_call (L2N.takes_of rfl rfl rfl rfl) (fun _ _ _ _ h => h)) (alen_cons (alen_cons (alen_cons alen_nil))) (sa_cons (se_var 2) (sa_cons (se_var 3) (sa_cons (se_lst (sa_cons (se_op op_sub lk_sub (se_cb call_len lk_len (by rfl) h_len boot_len (sa_cons (se_var 2) sa_nil)) se_int) sa_nil)) sa_nil)))) sa_nil))))))))) sb_nil)
      (sb_cons (ss_if (sw_and (st_cmp op_lt lk_lt (se_op op_mod lk_mod (se_var 1) se_int) se_int (nomark _)) (sw_and1 (st_cmp op_gt lk_gt (se_var 5) se_int (nomark _)))).t (sb_cons (ss_asg 7 sc__law_moved.nd (Or.inl rfl) (se_op op_mod lk_mod (se_var 4) (se_var 5)))
      (sb_cons (ss_ifX (stx_cmp op_notN lk_nN (sx_callMt G_Estate_go hr (by decide) (L2N.passes_call (L2N.takes_of rfl rfl rfl rfl) (fun _ _ _ _ h => h)) (alen_cons alen_nil) (sa_cons (se_var 7) sa_nil)) se_non (nomark _)) (sb_one (ss_retX (sx_pure se_non))) sb_nil)
      (sb_one (ss_retX (sx_pure (se_tup (sa_cons (se_var 2) (sa_cons (se_cal G__law_put hr (by decide) (L2N.passes_call (L2N.takes_of rfl rfl rfl rfl) (fun _ _ _ _ h => h)) (alen_cons (alen_cons (alen_cons alen_nil))) (sa_cons (se_var 2) (sa_cons (se_add (se_sl (se_var 3) so_none (so_some (se_var 7))) (se_sl (se_var 3) (so_some (se_add (se_var 7) se_int)) so_none)) (sa_cons (se_ix (se_var 3) (se_var 7) (fun _ _ => rfl)) sa_nil)))) sa_nil)))))))) sb_nil)
      (sb_cons (ss_if (st_cmp op_lt lk_lt (se_var 5) se_int (nomark _)) (sb_cons (ss_ifX (stx_cmp (op_neD (room64 hr)) lk_ne (sx_callMt G_Estate_join hr (by decide) (L2N.passes_call (L2N.takes_of rfl rfl rfl rfl) (fun _ _ _ _ h => h)) (alen_cons alen_nil) (sa_cons (se_list (by rfl) h_list (sa_cons (se_var 2) sa_nil)) sa_nil)) (se_var 5) (nomark _)) (sb_one (ss_retX (sx_pure se_non))) sb_nil)
      (sb_one (ss_retX (sx_pure (se_tup (sa_cons (se_var 2) (sa_cons (se_cal G__law_put hr (by decide) (L2N.passes_call (L2N.takes_of rfl rfl rfl rfl) (fun _ _ _ _ h => h)) (alen_cons (alen_cons (alen_cons alen_nil))) (sa_cons (se_var 2) (sa_cons (se_lc (own := [("_law_heir", 7)]) rfl sc__law_moved.nd (si_rg1 (by rfl) h_range (se_add (se_var 5) se_int)).j (blkOk_by (N := ["_law_estate", "_law_cell", "_law_row", "_law_held", "_law_number", "_law_heirs", "_law_handed", "_law_heir"]) (sc := defScope s__law_moved) (by decide +kernel)) (by decide) (fun b => (sg_name 7 sc__law_moved.nd (by first | exact Or.inl rfl | exact Or.inr rfl))) (fun b => sts_nil) (fun b => (se_lst sa_nil))) (sa_cons (se_lrg rfl (by rfl) h_list (by rfl) h_range (se_cb call_len lk_len (by rfl) h_len boot_len (sa_cons (se_var 2) sa_nil))) sa_nil)))) sa_nil))))))) sb_nil)
      (sb_one (ss_retX (sx_pure (se_tup (sa_cons (se_var 2) (sa_cons (se_var 3) sa_nil)))))))))))
/-! #### _law_told -/
abbrev s__law_told : Stmt := topS 48
theorem sc__law_told : FnScope ["_law_row", "_law_held", "_law_rows", "_law_empty", "_law_found", "_law_last", "_law_ahead", "_law_heir", "_law_share", "_law_thing"] ["_law_row", "_law_held"] (defScope s__law_told) := ⟨rfl, rfl, rfl, by decide +kernel, rfl, by decide +kernel, by decide +kernel⟩
def d__law_told : SD :=
      (seqD (asgD 2 (lcD (itJ (varD 1)) [8] (.nm 8) yesT (listD (consA (varD 0) nilA))))
      (seqD (asgD 3 (lcD (itJ (varD 1)) [8] (.nm 8) yesT (lstD nilA)))
      (seqD (asgD 4 (callD f_dealt (consA (varD 2) nilA)))
      (seqD (ifD (tstD (binR neF (varD 4) (callD f__law_put (consA (varD 0) (consA (varD 3) (consA (lrgD (cbD lenF (consA (varD 0) nilA))) nilA)))))) (retD (cD (.bool false))) (fun ρ => .nx ρ))
      (seqD (clrD 4)
      (seqD (ifD (tstD (binR eqF (cbD lenF (consA (varD 0) nilA)) (cD (.int 0)))) (retD (binR eqF (callD f_dealt (consA (varD 2) nilA)) (varD 3))) (fun ρ => .nx ρ))
      (seqD (asgD 5 (binR subI (cbD lenF (consA (varD 0) nilA)) (cD (.int 1))))
      (seqD (asgD 6 (lcD (itJ (varD 1)) [8] (.nm 8) yesT (lcD (itJ (varD 8)) [9] (.nm 9) (tstD (binR neF (varD 9) (varD 5))) (varD 9))))
      (seqD (asgD 7 (callD f__law_to (consA (varD 0) (consA (varD 6) nilA))))
      (seqD (ifD (tstD (binR neF (callD f_steps (consA (varD 2) (consA (varD 6) (consA (varD 5) nilA)))) (lstD (consA (tupD (consA (cD (.str (Str.ofString "give"))) (consA (varD 5) (consA (varD 7) nilA)))) nilA)))) (retD (cD (.bool false))) (fun ρ => .nx ρ))
      (seqD (asgD 4 (callD f_awarded (consA (varD 2) (consA (varD 6) (consA (varD 5) nilA)))))
      (retD (andD (binR eqF (varD 4) (callD f__law_put (consA (varD 0) (consA (varD 6) (consA (lstD (consA (varD 5) nilA)) nilA))))) (binR eqF (varD 2) (lcD (itJ (varD 1)) [8] (.nm 8) yesT (listD (consA (varD 0) nilA)))))))))))))))))
def f__law_told : List PD → Out R := denF 10 2 d__law_told
set_option maxHeartbeats 4000000 in
theorem m__law_told {P : Program} {w : World} {K : PySem.W.Frag} {mg : Str → Option Value} {base : Heap}  {f : Addr} {fd : FuncData} (F : FnP K "_law_told" s__law_told f fd) (h_list : mg "list" = none) (h_len : mg "len" = none) (h_range : mg "range" = none) (G_dealt : Cal P w K mg base (cm K) "dealt" 9 1 ["table"] f_dealt) (G__law_put : Cal P w K mg base (cm K) "_law_put" 3 3 ["_law_row", "_law_held", "_law_things"] f__law_put) (G__law_to : Cal P w K mg base (cm K) "_law_to" 2 2 ["_law_row", "_law_held"] f__law_to) (G_steps : Cal P w K mg base (cm K) "steps" 7 3 ["table", "shares", "thing"] f_steps) (G_awarded : Cal P w K mg base (cm K) "awarded" 8 3 ["table", "shares", "thing"] f_awarded) :
    FnOk P w K mg base (L2N.CX P w) 10 f fd ["_law_row", "_law_held"] (SpF K (cm K) 2 f__law_told) :=
  fnOk_of F sc__law_told rfl (by decide) fun cdv A outer s H E hr => by
    exact (sb_cons (ss_asgLc (own := [("_law_share", 8)])  2 rfl sc__law_told.nd rfl (sw_true rfl rfl rfl (by decide +kernel)) (sj_list (se_var 1)) (blkOk_by (N := ["_law_row", "_law_held", "_law_rows", "_law_empty", "_law_found", "_law_last", "_law_ahead", "_law_heir", "_law_share", "_law_thing"]) (sc := defScope s__law_told) (by decide +kernel)) (by decide) (fun b => (sg_name 8 sc__law_told.nd (by first | exact Or.inl rfl | exact Or.inr rfl))) (fun b => sts_nil) (fun b => (se_list (by rfl) h_list (sa_cons (se_var 0) sa_nil))))
      (sb_cons (ss_asgLc (own := [("_law_share", 8)])  3 rfl sc__law_told.nd rfl (sw_true rfl rfl rfl (by decide +kernel)) (sj_list (se_var 1)) (blkOk_by (N := ["_law_row", "_law_held", "_law_rows", "_law_empty", "_law_found", "_law_last", "_law_ahead", "_law_heir", "_law_share", "_law_thing"]) (sc := defScope s__law_told) (by decide +kernel)) (by decide) (fun b => (sg_name 8 sc__law_told.nd (by first | exact Or.inl rfl | exact Or.inr rfl))) (fun b => sts_nil) (fun b => (se_lst sa_nil)))
      (sb_cons (ss_asg 4 sc__law_told.nd (Or.inl rfl) (se_cal G_dealt hr (by decide) (L2N.passes_call (L2N.takes_of rfl rfl rfl rfl) (fun _ _ _ _ h => h)) (alen_cons alen_nil) (sa_cons (se_var 2) sa_nil)))
      (sb_cons (ss_if (st_cmp (op_neD (room64 hr)) lk_ne (se_var 4) (se_cal G__law_put hr (by decide) (L2N.passes_call (L2N.takes_of rfl rfl rfl rfl) (fun _ _ _ _ h => h)) (alen_cons (alen_cons (alen_cons alen_nil))) (sa_cons (se_var 0) (sa_cons (se_var 3) (sa_cons (se_lrg rfl (by rfl) h_list (by rfl) h_range (se_cb call_len lk_len (by rfl) h_len boot_len (sa_cons (se_var 0) sa_nil))) sa_nil)))) (nomark _)) (sb_one (ss_ret se_bl)) sb_nil)
      (sb_cons (ss_clr 4 (hp := fun _ ho => pe_bm0 PySem.F.plainAttrs_list PySem.F.slot_list_clear PySem.F.type_list_clear mt_clear ho))
      (sb_cons (ss_if (st_cmp (op_eqD (room64 hr)) lk_eq (se_cb call_len lk_len (by rfl) h_len boot_len (sa_cons (se_var 0) sa_nil)) se_int (nomark _)) (sb_one (ss_ret (se_cmp (op_eqD (room64 hr)) lk_eq (se_cal G_dealt hr (by decide) (L2N.passes_call (L2N.takes_of rfl rfl rfl rfl) (fun _ _ _ _ h => h)) (alen_cons alen_nil) (sa_cons (se_var 2) sa_nil)) (se_var 3) (nomark _)))) sb_nil)
      (sb_cons (ss_asg 5 sc__law_told.nd (Or.inr rfl) (se_op op_sub lk_sub (se_cb call_len lk_len (by rfl) h_len boot_len (sa_cons (se_var 0) sa_nil)) se_int))
      (sb_cons (ss_asgLc (own := [("_law_share", 8)])  6 rfl sc__law_told.nd rfl (sw_true rfl rfl rfl (by decide +kernel)) (sj_list (se_var 1)) (blkOk_by (N := ["_law_row", "_law_held", "_law_rows", "_law_empty", "_law_found", "_law_last", "_law_ahead", "_law_heir", "_law_share", "_law_thing"]) (sc := defScope s__law_told) (by decide +kernel)) (by decide) (fun b => (sg_name 8 sc__law_told.nd (by first | exact Or.inl rfl | exact Or.inr rfl))) (fun b => sts_nil) (fun b => (se_lc (own := [("_law_thing", 9)]) rfl sc__law_told.nd (sj_list (se_var 8)) (blkOk_by (N := ["_law_row", "_law_held", "_law_rows", "_law_empty", "_law_found", "_law_last", "_law_ahead", "_law_heir", "_law_share", "_law_thing"]) (sc := relS ({ kind := PySem.ScopeKind.function, names := [ (PySem.Str.ofString ".0", PySem.NameKind.local), (PySem.Str.ofString "_law_share", PySem.NameKind.local), (PySem.Str.ofString "_law_last", PySem.NameKind.free)], isGenerator := false, isCoroutine := false, more := [] : PySem.Scope }) (defScope s__law_told)) (by decide +kernel)) (by decide) (fun b => (sg_name 9 sc__law_told.nd (by first | exact Or.inl rfl | exact Or.inr rfl))) (fun b => (sts_one (st_cmp (op_neD (room64 hr)) lk_ne (se_var 9) (se_var 5) (nomark _)))) (fun b => (se_var 9)))))
      (sb_cons (ss_asg 7 sc__law_told.nd (Or.inl rfl) (se_cal G__law_to hr (by decide) (L2N.passes_call (L2N.takes_of rfl rfl rfl rfl) (fun _ _ _ _ h => h)) (alen_cons (alen_cons alen_nil)) (sa_cons (se_var 0) (sa_cons (se_var 6) sa_nil))))
      (sb_cons (ss_if (st_cmp (op_neD (room64 hr)) lk_ne (se_cal G_steps hr (by decide) (L2N.passes_call (L2N.takes_of rfl rfl rfl rfl) (fun _ _ _ _ h => h)) (alen_cons (alen_cons (alen_cons alen_nil))) (sa_cons (se_var 2) (sa_cons (se_var 6) (sa_cons (se_var 5) sa_nil)))) (se_lst (sa_cons (se_tup (sa_cons se_str (sa_cons (se_var 5) (sa_cons (se_var 7) sa_nil)))) sa_nil)) (nomark _)) (sb_one (ss_ret se_bl)) sb_nil)
      (sb_cons (ss_asg 4 sc__law_told.nd (Or.inl rfl) (se_cal G_awarded hr (by decide) (L2N.passes_call (L2N.takes_of rfl rfl rfl rfl) (fun _ _ _ _ h => h)) (alen_cons (alen_cons (alen_cons alen_nil))) (sa_cons (se_var 2) (sa_cons (se_var 6) (sa_cons (se_var 5) sa_nil)))))
      (sb_one (ss_ret (se_and (se_cmp (op_eqD (room64 hr)) lk_eq (se_var 4) (se_cal G__law_put hr (by decide) (L2N.passes_call (L2N.takes_of rfl rfl rfl rfl) (fun _ _ _ _ h => h)) (alen_cons (alen_cons (alen_cons alen_nil))) (sa_cons (se_var 0) (sa_cons (se_var 6) (sa_cons (se_lst (sa_cons (se_var 5) sa_nil)) sa_nil)))) (nomark _)) (se_one (se_cmp (op_eqD (room64 hr)) lk_eq (se_var 2) (se_lc (own := [("_law_share", 8)]) rfl sc__law_told.nd (sj_list (se_var 1)) (blkOk_by (N := ["_law_row", "_law_held", "_law_rows", "_law_empty", "_law_found", "_law_last", "_law_ahead", "_law_heir", "_law_share", "_law_thing"]) (sc := defScope s__law_told) (by decide +kernel)) (by decide) (fun b => (sg_name 8 sc__law_told.nd (by first | exact Or.inl rfl | exact Or.inr rfl))) (fun b => sts_nil) (fun b => (se_list (by rfl) h_list (sa_cons (se_var 0) sa_nil)))) (nomark _)))))))))))))))))
/-! #### _law_looked -/
abbrev s__law_looked : Stmt := topS 49
theorem sc__law_looked : FnScope ["_law_estate", "_law_row", "_law_held", "_law_way", "_law_share", "_law_found"] ["_law_estate", "_law_row", "_law_held", "_law_way"] (defScope s__law_looked) := ⟨rfl, rfl, rfl, by decide +kernel, rfl, by decide +kernel, by decide +kernel⟩
def d__law_looked (Cl : Addr) : SD :=
      (seqD (ifX (andX (pureT (tstD (binR eqF (varD 3) (cD (.int 1))))) (tstX (binX neF (callMt Cl "table" (f_Estate_table Cl) 0 nilA) (lcD (itJ (varD 2)) [4] (.nm 4) yesT (varD 1))))) (retX (pureX (cD (.bool false)))) (fun ρ => .nx ρ))
      (seqD (asgX 5 (callMt Cl "shares" (f_Estate_shares Cl) 0 nilA))
      (seqD (ifX (orX (pureT (tstD (binR neF (varD 5) (varD 2)))) (tstX (binX neF (callMt Cl "table" (f_Estate_table Cl) 0 nilA) (lcD (itJ (varD 2)) [4] (.nm 4) yesT (varD 1))))) (retX (pureX (cD (.bool false)))) (fun ρ => .nx ρ))
      (seqD (appAllD 5 4 (.int (-1)))
      (retX (binX eqF (callMt Cl "shares" (f_Estate_shares Cl) 0 nilA) (varD 2)))))))
def f__law_looked (Cl : Addr) : Addr → List (Str × PD) → List PD → OB := denO Cl 6 3 (d__law_looked Cl)
set_option maxHeartbeats 4000000 in
theorem m__law_looked {P : Program} {w : World} {K : PySem.W.Frag} {mg : Str → Option Value} {base : Heap}  {f : Addr} {fd : FuncData} (F : FnP K "_law_looked" s__law_looked f fd) (G_Estate_table : CalMt P w K mg base (cm K) (He.ga K "Estate") "table" 1 0 ["self"] (f_Estate_table (He.ga K "Estate"))) (G_Estate_shares : CalMt P w K mg base (cm K) (He.ga K "Estate") "shares" 1 0 ["self"] (f_Estate_shares (He.ga K "Estate"))) :
    FnOk P w K mg base (L2N.CX P w) 3 f fd ["_law_estate", "_law_row", "_law_held", "_law_way"] (SpO K (cm K) (He.ga K "Estate") 3 (f__law_looked (He.ga K "Estate"))) :=
  fnOk_ofO F sc__law_looked rfl (by decide) fun cdv A outer s H E hr => by
    exact (sb_cons (ss_ifX (swx_and (sx_purt (st_cmp (op_eqD (room64 hr)) lk_eq (se_var 3) se_int (nomark _))) (swx_and1 (stx_cmp (op_neD (room64 hr)) lk_ne (sx_callMt0 G_Estate_table hr (by decide) (L2N.passes_call (L2N.takes_of rfl rfl rfl rfl) (fun _ _ _ _ h => h))) (se_lc (own := [("_law_share", 4)]) rfl sc__law_looked.nd (sj_list (se_var 2)) (blkOk_by (N := ["_law_estate", "_law_row", "_law_held", "_law_way", "_law_share", "_law_found"]) (sc := defScope s__law_looked) (by decide +kernel)) (by decide) (fun b => (sg_name 4 sc__law_looked.nd (by first | exact Or.inl rfl | exact Or.inr rfl))) (fun b => sts_nil) (fun b => (se_var 1))) (nomark _)))).t (sb_one (ss_retX (sx_pure se_bl))) sb_nil)
      (sb_cons (ss_asgX 5 sc__law_looked.nd (Or.inl rfl) (sx_callMt0 G_Estate_shares hr (by decide) (L2N.passes_call (L2N.takes_of rfl rfl rfl rfl) (fun _ _ _ _ h => h))))
      (sb_cons (ss_ifX (swx_or (sx_purt (st_cmp (op_neD (room64 hr)) lk_ne (se_var 5) (se_var 2) (nomark _))) (swx_or1 (stx_cmp (op_neD (room64 hr)) lk_ne (sx_callMt0 G_Estate_table hr (by decide) (L2N.passes_call (L2N.takes_of rfl rfl rfl rfl) (fun _ _ _ _ h => h))) (se_lc (own := [("_law_share", 4)]) rfl sc__law_looked.nd (sj_list (se_var 2)) (blkOk_by (N := ["_law_estate", "_law_row", "_law_held", "_law_way", "_law_share", "_law_found"]) (sc := defScope s__law_looked) (by decide +kernel)) (by decide) (fun b => (sg_name 4 sc__law_looked.nd (by first | exact Or.inl rfl | exact Or.inr rfl))) (fun b => sts_nil) (fun b => (se_var 1))) (nomark _)))).t (sb_one (ss_retX (sx_pure se_bl))) sb_nil)
      (sb_cons (ss_appAll 5 4 (d := .int (-1)) (passes_of rfl) rfl sc__law_looked.nd rfl rfl (by first | exact Or.inl rfl | exact Or.inr (Or.inl rfl) | exact Or.inr (Or.inr rfl)) (by first | exact Or.inl rfl | exact Or.inr (Or.inl rfl) | exact Or.inr (Or.inr rfl)) (Or.inl rfl) (by first | exact Or.inl rfl | exact Or.inr rfl) (by decide) (by decide) (by decide) (by decide) (se_neg se_int) (fun _ => rfl) (by decide) (hpp := fun _ _ ho ha => pe_bm PySem.F.plainAttrs_list PySem.F.slot_list_append PySem.F.type_list_append mt_append ho ha))
      (sb_one (ss_retX (sx_cmp (op_eqD (room64 hr)) lk_eq (sx_callMt0 G_Estate_shares hr (by decide) (L2N.passes_call (L2N.takes_of rfl rfl rfl rfl) (fun _ _ _ _ h => h))) (se_var 2) (nomark _))))))))
/-! #### law -/
abbrev s_law : Stmt := topS 50
theorem sc_law : FnScope ["_law_script", "_law_heirs", "_law_estate", "_law_row", "_law_held", "_law_cell", "_law_moved_here", "_law_heir"] ["_law_script"] (defScope s_law) := ⟨rfl, rfl, rfl, by decide +kernel, rfl, by decide +kernel, by decide +kernel⟩
def d_law (Cl : Addr) : SD :=
      (seqD (asgD 1 (addD (cD (.int 1)) (binR modI (callD f__law_at (consA (varD 0) (consA (cD (.int 0)) nilA))) (cD (.int 4)))))
      (seqD (ifD (tstD (binR eqF (binR modI (binR divI (callD f__law_at (consA (varD 0) (consA (cD (.int 0)) nilA))) (cD (.int 4))) (cD (.int 8))) (cD (.int 1)))) (asgD 1 (addD (varD 1) (cD (.int 4)))) (fun ρ => .nx ρ))
      (mkB Cl 2 (f_Estate___init__ Cl) (consA (varD 1) nilA) (seqD (asgD 3 (lstD nilA))
      (seqD (asgD 4 (lcD (rg1D (varD 1)) [7] (.nm 7) yesT (lstD nilA)))
      (seqD (frzD 3) (seqD (frzD 4) (seqD (forD (itD (slD (varD 0) (soO (cD (.int 1))) (soO (cD (.int 17))))) (.nm 5) (seqD (asgX 6 (callO Cl (f__law_moved Cl) (fun _ => true) 2 (consA (varD 5) (consA (varD 3) (consA (varD 4) nilA)))))
      (seqD (ifD (tstD (binR isNF (varD 6) (cD .none))) (retD (cD (.bool false))) (fun ρ => .nx ρ))
      (seqD (asgD 3 (ixD (varD 6) (cD (.int 0))))
      (seqD (asgD 4 (ixD (varD 6) (cD (.int 1))))
      (ifX (andX (pureT (tstD (binR eqF (binR modI (binR divI (varD 5) (cD (.int 32))) (cD (.int 2))) (cD (.int 0))))) (notX (tstX (callO Cl (f__law_looked Cl) (fun _ => true) 2 (consA (varD 3) (consA (varD 4) (consA (binR modI (binR divI (varD 5) (cD (.int 16))) (cD (.int 2))) nilA))))))) (retD (cD (.bool false))) (fun ρ => .nx ρ)))))))
      (retX (andVX (callO Cl (f__law_looked Cl) (fun _ => true) 2 (consA (varD 3) (consA (varD 4) (consA (cD (.int 0)) nilA)))) (pureX (callD f__law_told (consA (varD 3) (consA (varD 4) nilA))))))))))))))
def f_law (Cl : Addr) : List PD → Out R := denF 8 1 (d_law Cl)
set_option maxHeartbeats 4000000 in
theorem m_law {P : Program} {w : World} {K : PySem.W.Frag} {mg : Str → Option Value} {base : Heap}  {f : Addr} {fd : FuncData} (F : FnP K "law" s_law f fd) (h_range : mg "range" = none) (G__law_at : Cal P w K mg base (cm K) "_law_at" 1 2 ["_law_script", "_law_k"] f__law_at) (G_Estate___init__ : CalMk P w K mg base (cm K) (He.ga K "Estate") "Estate" 2 1 ["self", "heirs"] (f_Estate___init__ (He.ga K "Estate"))) (G__law_moved : CalO P w K mg base (cm K) (He.ga K "Estate") "_law_moved" 12 3 ["_law_estate", "_law_cell", "_law_row", "_law_held"] (f__law_moved (He.ga K "Estate"))) (G__law_looked : CalO P w K mg base (cm K) (He.ga K "Estate") "_law_looked" 3 3 ["_law_estate", "_law_row", "_law_held", "_law_way"] (f__law_looked (He.ga K "Estate"))) (G__law_told : Cal P w K mg base (cm K) "_law_told" 10 2 ["_law_row", "_law_held"] f__law_told) :
    FnOk P w K mg base (L2N.CX P w) 13 f fd ["_law_script"] (SpF K (cm K) 1 (f_law (He.ga K "Estate"))) :=
  fnOk_of F sc_law rfl (by decide) fun cdv A outer s H E hr => by
    exact (sb_cons (ss_asg 1 sc_law.nd (Or.inl rfl) (se_add se_int (se_op op_mod lk_mod (se_cal G__law_at hr (by decide) (L2N.passes_call (L2N.takes_of rfl rfl rfl rfl) (fun _ _ _ _ h => h)) (alen_cons (alen_cons alen_nil)) (sa_cons (se_var 0) (sa_cons se_int sa_nil))) se_int)))
      (sb_cons (ss_if (st_cmp (op_eqD (room64 hr)) lk_eq (se_op op_mod lk_mod (se_op op_fdiv lk_div (se_cal G__law_at hr (by decide) (L2N.passes_call (L2N.takes_of rfl rfl rfl rfl) (fun _ _ _ _ h => h)) (alen_cons (alen_cons alen_nil)) (sa_cons (se_var 0) (sa_cons se_int sa_nil))) se_int) se_int) se_int (nomark _)) (sb_one (ss_asg 1 sc_law.nd (Or.inl rfl) (se_add (se_var 1) se_int))) sb_nil)
      (sb_mk 2 G_Estate___init__ hr (by decide) (L2N.passes_call (L2N.takes_of rfl rfl rfl rfl) (fun _ _ _ _ h => h)) (alen_cons alen_nil) (sa_cons (se_var 1) sa_nil) (sb_cons (ss_asg 3 sc_law.nd (Or.inl rfl) (se_lst sa_nil))
      (sb_cons (ss_asgLc (own := [("_law_heir", 7)])  4 rfl sc_law.nd rfl (sw_true rfl rfl rfl (by decide +kernel)) (si_rg1 (by rfl) h_range (se_var 1)).j (blkOk_by (N := ["_law_script", "_law_heirs", "_law_estate", "_law_row", "_law_held", "_law_cell", "_law_moved_here", "_law_heir"]) (sc := defScope s_law) (by decide +kernel)) (by decide) (fun b => (sg_name 7 sc_law.nd (by first | exact Or.inl rfl | exact Or.inr rfl))) (fun b => sts_nil) (fun b => (se_lst sa_nil)))
      (sb_frz 3 (sb_frz 4 (sb_cons (ss_for (passes_of rfl) rfl (si_list (se_sl (se_var 0) (so_some se_int) (so_some se_int))) (sg_name 5 sc_law.nd (Or.inl rfl)) (sb_cons (ss_asgX 6 sc_law.nd (Or.inl rfl) (sx_callO G__law_moved hr (by decide) (L2N.passes_call (L2N.takes_of rfl rfl rfl rfl) (fun _ _ _ _ h => h)) (alen_cons (alen_cons (alen_cons alen_nil))) (sa_cons (se_var 5) (sa_cons (se_var 3) (sa_cons (se_var 4) sa_nil)))))
      (sb_cons (ss_if (st_cmp op_isN lk_isN (se_var 6) se_non (nomark _)) (sb_one (ss_ret se_bl)) sb_nil)
      (sb_cons (ss_asg 3 sc_law.nd (Or.inl rfl) (se_ix (se_var 6) se_int (fun _ _ => rfl)))
      (sb_cons (ss_asg 4 sc_law.nd (Or.inl rfl) (se_ix (se_var 6) se_int (fun _ _ => rfl)))
      (sb_one (ss_ifX (swx_and (sx_purt (st_cmp (op_eqD (room64 hr)) lk_eq (se_op op_mod lk_mod (se_op op_fdiv lk_div (se_var 5) se_int) se_int) se_int (nomark _))) (swx_and1 (sx_not (sx_val (sx_callO G__law_looked hr (by decide) (L2N.passes_call (L2N.takes_of rfl rfl rfl rfl) (fun _ _ _ _ h => h)) (alen_cons (alen_cons (alen_cons alen_nil))) (sa_cons (se_var 3) (sa_cons (se_var 4) (sa_cons (se_op op_mod lk_mod (se_op op_fdiv lk_div (se_var 5) se_int) se_int) sa_nil)))))))).t (sb_one (ss_ret se_bl)) sb_nil)))))))
      (sb_one (ss_retX (sx_and (sx_callO G__law_looked hr (by decide) (L2N.passes_call (L2N.takes_of rfl rfl rfl rfl) (fun _ _ _ _ h => h)) (alen_cons (alen_cons (alen_cons alen_nil))) (sa_cons (se_var 3) (sa_cons (se_var 4) (sa_cons se_int sa_nil)))) (sx_one (sx_pure (se_cal G__law_told hr (by decide) (L2N.passes_call (L2N.takes_of rfl rfl rfl rfl) (fun _ _ _ _ h => h)) (alen_cons (alen_cons alen_nil)) (sa_cons (se_var 3) (sa_cons (se_var 4) sa_nil))))))))))))) sc_law.nd (Or.inl rfl))))
end
end P

/-! ## k15M -/
set_option Elab.async false
set_option linter.all false
set_option maxRecDepth 100000
set_option maxHeartbeats 1000000
namespace P
noncomputable section
/-! #### maths: base -/
open PySem PySem.Spec PyProof.Rows L2 Z
theorem is_number_below_eq (v n : Int) : f_is_number_below [.int v, .int n] = .ok (.im (.bool (decide (0 ≤ v) && decide (v < n)))) := by
  refine den_rt ?_
  by_cases h : 0 ≤ v <;> by_cases h2 : v < n <;> simp [d_is_number_below, h, h2]
def inL (n : Int) (xs : List Int) : Bool := xs.all fun v => decide (0 ≤ v) && decide (v < n)
theorem is_list_below_eq (xs : List Int) (n : Int) (hl : xs.length ≤ 100000) : f_is_list_below [L1 xs, .int n] = .ok (.im (.bool (inL n xs))) := by
  refine den_rt ?_
  have := lcD_im (s := itJ (varD 0)) (vs := [2]) (k := .nm 2) (e := callD f_is_number_below (consA (varD 2) (consA (varD 1) nilA))) (ρ := [.im (L1 xs), .im (.int n), .no]) xs PyData.int (fun v => .bool (decide (0 ≤ v) && decide (v < n))) (by simp) hl (fun x hx => ⟨_, rfl, by simp [is_number_below_eq]⟩)
  simp [d_is_list_below, this, inL]

structure WfT (rows : List (List Int)) (m : Nat) : Prop where
  h1 : 1 ≤ rows.length
  h8 : rows.length ≤ 8
  m40 : m ≤ 40
  len : ∀ r ∈ rows, r.length = m
  num : ∀ r ∈ rows, ∀ v ∈ r, 0 ≤ v ∧ v < 1000001
theorem inL_of {n : Int} {xs : List Int} (h : ∀ v ∈ xs, 0 ≤ v ∧ v < n) : inL n xs = true := by
  simp [inL]
  exact h
theorem need_table_eq {rows : List (List Int)} {m : Nat} (W : WfT rows m) : f_need_table [LL rows] = .ok (.im .none) := by
  obtain ⟨r0, rs, e⟩ : ∃ r0 rs, rows = r0 :: rs := by
    cases rows with
    | nil => have := W.h1; simp at this
    | cons a b => exact ⟨a, b, rfl⟩
  have a1 : (1 : Int) ≤ rows.length := by have := W.h1; omega
  have a2 : (rows.length : Int) ≤ 8 := by have := W.h8; omega
  have a3 : ¬(40 : Int) < m := by have := W.m40; omega
  have a4 := W.len r0 (by simp [e])
  have a5 : atI rows 0 = some r0 := by simp [e, atI, ixN]
  unfold f_need_table
  rw [den_eq]
  simp [d_need_table, a1, a2]
  refine fin_for (fun i ρ => ∃ x, ρ = [.im (LL rows), x, .no]) rows (fun r => L1 r) (by simp) ⟨_, rfl⟩ ?_ ?_
  · rintro i h ρ ⟨x, rfl⟩
    have b1 := W.len _ (List.getElem_mem h)
    have b2 := inL_of (W.num _ (List.getElem_mem h))
    have b3 : m ≤ 100000 := by have := W.m40; omega
    simp [is_list_below_eq, b1, b2, b3]
    refine stp_nx ?_; exact ⟨_, rfl⟩
  · rintro ρ ⟨x, rfl⟩
    simp [atI_map, a5, a4, a3]
    refine fin_forE (fun i ρ => ∃ x, ρ = [.im (LL rows), x, .im (.int m)]) rows (fun r => L1 r) (by simp) ⟨_, rfl⟩ ?_
    rintro i h ρ ⟨x, rfl⟩
    have b1 := W.len _ (List.getElem_mem h)
    simp [b1, neF_int]
    refine stp_nx ?_; exact ⟨_, rfl⟩
/-! #### maths: shares -/
structure WfS (m : Nat) (shares : List (List Int)) : Prop where
  num : ∀ s ∈ shares, ∀ v ∈ s, 0 ≤ v ∧ v < (m : Int)
  up : ∀ s ∈ shares, s.Pairwise (· < ·)
  nd : shares.flatten.Nodup
theorem nodup_le {m : Nat} {l : List Int} (h : l.Nodup) (hb : ∀ v ∈ l, 0 ≤ v ∧ v < (m : Int)) : l.length ≤ m := by
  have h2 : l ⊆ (List.range m).map fun (i : Nat) => (i : Int) := fun v hv => by
    have := hb v hv
    simp only [List.mem_map, List.mem_range]
    exact ⟨v.toNat, by omega, by omega⟩
  have := List.Nodup.length_le_of_subset h h2
  simpa using this
theorem WfS.len {m : Nat} {shares : List (List Int)} (W : WfS m shares) : shares.flatten.length ≤ m :=
  nodup_le W.nd fun v hv => by
    obtain ⟨s, hs, hv⟩ := List.mem_flatten.mp hv
    exact W.num s hs v hv
theorem WfS.slen {m : Nat} {shares : List (List Int)} (W : WfS m shares) {s : List Int} (hs : s ∈ shares) : s.length ≤ m :=
  nodup_le ((W.up s hs).imp fun h => by omega) (W.num s hs)
theorem need_parted_eq {shares : List (List Int)} {m : Nat} (a3 : m ≤ 40) (hl : shares.length ≤ 100000) (S : WfS m shares) : f_need_parted [LL shares, .int m] = .ok (.im .none) := by
  have a6 := S.len
  unfold f_need_parted
  rw [den_eq]
  simp [d_need_parted]
  refine fin_for (fun i ρ => ∃ x, ρ = [.im (LL shares), .im (.int m), x, .no, .no]) shares (fun r => L1 r) (by simp) ⟨_, rfl⟩ ?_ ?_
  · rintro i h ρ ⟨x, rfl⟩
    have b1 := S.slen (List.getElem_mem h)
    have b2 := inL_of (S.num _ (List.getElem_mem h))
    have b3 : shares[i].length ≤ 100000 := by omega
    have b4 := sortI_self _ (S.up _ (List.getElem_mem h))
    simp [is_list_below_eq, b1, b2, b3, sortD, b4, neF_L1]
    refine stp_nx ?_; exact ⟨_, rfl⟩
  · rintro ρ ⟨x, rfl⟩
    have c1 := lc2D_im (s := itJ (varD 0)) (s2 := itD (varD 2)) (vs := [2, 4]) (vs1 := [4]) (k1 := .nm 2) (k2 := .nm 4) (e := varD 4) (ρ := [.im (LL shares), .im (.int m), x, .no, .no]) shares (fun r => L1 r) (fun r => r) (fun _ => PyData.int) (fun _ => PyData.int) (by simp) (by
      have : (shares.flatMap fun x => x.map PyData.int).length = shares.flatten.length := by
        rw [List.length_flatMap, List.length_flatten]
        simp
      omega) (fun r hr => ⟨_, rfl, by simp, fun y hy => ⟨_, rfl, by simp⟩⟩)
    have c2 : (@List.flatMap (List Int) PD (fun x => x.map PyData.int) shares) = shares.flatten.map PyData.int := by
      rw [List.map_flatten]; rfl
    rw [c2] at c1
    have c3 : shares.flatten.length ≤ 4000 := by omega
    simp [-List.map_flatten, -List.length_flatten, c1, c3, ddL_nodup _ S.nd]
theorem need_shares_eq {rows shares : List (List Int)} {m : Nat} (W : WfT rows m) (hl : shares.length = rows.length) (S : WfS m shares) : f_need_shares [LL rows, LL shares] = .ok (.im .none) := by
  obtain ⟨r0, rs, e⟩ : ∃ r0 rs, rows = r0 :: rs := by
    cases rows with
    | nil => have := W.h1; simp at this
    | cons a b => exact ⟨a, b, rfl⟩
  have a0 := need_table_eq W
  have a3 : m ≤ 40 := W.m40
  have a4 := W.len r0 (by simp [e])
  have a5 : atI rows 0 = some r0 := by simp [e, atI, ixN]
  have a6 := need_parted_eq a3 (by have := W.h8; omega) S
  unfold f_need_shares
  rw [den_eq]
  simp only [LL] at a0 a6
  simp [d_need_shares, a0, neF_int, hl, atI_map, a5, a4, a6]
/-! #### maths: total -/
/-- what things come to by a row -/
def tot (row things : List Int) : Int := (things.map fun t => row.getD t.toNat 0).sum
theorem atI_getD {row : List Int} {t : Int} (h : 0 ≤ t ∧ t < row.length) : atI row t = some (row.getD t.toNat 0) := by
  rw [atI_nat row t h.1 h.2]
  have : t.toNat < row.length := by omega
  simp [List.getD_eq_getElem?_getD, this]
theorem total_eq (row things : List Int) (hl : things.length ≤ 100000) (hb : ∀ t ∈ things, 0 ≤ t ∧ t < (row.length : Int)) : f_total [L1 row, L1 things] = .ok (.im (.int (tot row things))) := by
  unfold f_total
  rw [den_eq]
  have c := lcD_im (s := itJ (varD 1)) (vs := [2]) (k := .nm 2) (e := ixD (varD 0) (varD 2)) (ρ := [.im (L1 row), .im (L1 things), .no]) things PyData.int (fun t => .int (row.getD t.toNat 0)) (by simp) hl (fun t ht => ⟨_, rfl, by simp [atI_map, atI_getD (hb t ht)]⟩)
  simp only [L1] at c
  simp [d_total, c, tot]
/-! #### maths: env -/
theorem prefers_eq (row a b : List Int) (ha : ∀ t ∈ a, 0 ≤ t ∧ t < (row.length : Int)) (hb : ∀ t ∈ b, 0 ≤ t ∧ t < (row.length : Int)) (la : a.length ≤ 100000) (lb : b.length ≤ 100000) :
    f_prefers [L1 row, L1 a, L1 b] = .ok (.im (.bool (decide (tot row b < tot row a)))) := by
  have h1 := total_eq row a la ha
  have h2 := total_eq row b lb hb
  unfold f_prefers
  rw [den_eq]
  simp only [L1] at h1 h2
  simp [d_prefers, h1, h2]
/-- does the one envy the other? -/
def envyB (rows shares : List (List Int)) (i j : Nat) : Bool := decide (tot (rows.getD i []) (shares.getD i []) < tot (rows.getD i []) (shares.getD j []))
def rowPairs (e : Nat → Nat → Bool) (i j : Nat) : List (Nat × Nat) := ((List.range j).filter (e i)).map fun k => (i, k)
def pairsTo (e : Nat → Nat → Bool) (n i : Nat) : List (Nat × Nat) := (List.range i).flatMap fun a => rowPairs e a n
theorem rowPairs_succ (e : Nat → Nat → Bool) (i j : Nat) : rowPairs e i (j + 1) = rowPairs e i j ++ if e i j then [(i, j)] else [] := by
  unfold rowPairs
  rw [List.range_succ, List.filter_append, List.map_append]
  congr 1
  cases h : e i j <;> simp [h]
theorem pairsTo_succ (e : Nat → Nat → Bool) (n i : Nat) : pairsTo e n (i + 1) = pairsTo e n i ++ rowPairs e i n := by
  unfold pairsTo
  rw [List.range_succ, List.flatMap_append]
  simp
theorem mem_pairs {e : Nat → Nat → Bool} {n i : Nat} {p : Nat × Nat} (h : p ∈ pairsTo e n i) : p.1 < i ∧ p.2 < n ∧ e p.1 p.2 = true := by
  simp only [pairsTo, rowPairs, List.mem_flatMap, List.mem_range, List.mem_map, List.mem_filter] at h
  obtain ⟨a, ha, k, ⟨hk, he⟩, rfl⟩ := h
  exact ⟨ha, hk, he⟩
theorem pairs_mem {e : Nat → Nat → Bool} {n i a b : Nat} (ha : a < i) (hb : b < n) (h : e a b = true) : (a, b) ∈ pairsTo e n i := by
  simp only [pairsTo, rowPairs, List.mem_flatMap, List.mem_range, List.mem_map, List.mem_filter]
  exact ⟨a, ha, b, ⟨hb, h⟩, rfl⟩
theorem rowPairs_len (e : Nat → Nat → Bool) (i j : Nat) : (rowPairs e i j).length ≤ j := by
  unfold rowPairs
  rw [List.length_map]
  exact Nat.le_trans (List.length_filter_le _ _) (by simp)
theorem pairsTo_len (e : Nat → Nat → Bool) (n : Nat) : ∀ i, (pairsTo e n i).length ≤ i * n
  | 0 => by simp [pairsTo]
  | i + 1 => by
    have h1 := pairsTo_len e n i
    have h2 := rowPairs_len e i n
    rw [pairsTo_succ, List.length_append, Nat.succ_mul]
    omega
theorem sq8 {i n : Nat} (h1 : i ≤ 8) (h2 : n ≤ 8) : i * n ≤ 64 := Nat.mul_le_mul h1 h2
abbrev ppE (ps : List (Nat × Nat)) : List PD := ps.map PP
theorem getD_mem {l : List (List Int)} {i : Nat} (h : i < l.length) : l.getD i [] ∈ l := by
  rw [List.getD_eq_getElem?_getD, List.getElem?_eq_getElem h]
  exact List.getElem_mem h
theorem at_getD {l : List (List Int)} {i : Nat} (h : i < l.length) : atI l (i : Int) = some (l.getD i []) := by
  rw [atI_nat _ _ (by omega) (by omega)]
  simp [List.getD_eq_getElem?_getD, h]
theorem envies_eq {rows shares : List (List Int)} {m : Nat} (W : WfT rows m) (hl : shares.length = rows.length) (S : WfS m shares) :
    f_envies [LL rows, LL shares] = .ok (.fr 0 (ppE (pairsTo (envyB rows shares) rows.length rows.length))) := by
  have a0 := need_shares_eq W hl S
  have m40 := W.m40
  have n8 := W.h8
  unfold f_envies
  rw [den_eq]
  simp only [LL, L1] at a0
  simp [d_envies, a0]
  refine fin_forT (fun i ρ => ∃ x y z w, ρ = [.im (LL rows), .im (LL shares), .ow 0 (ppE (pairsTo (envyB rows shares) rows.length i)), x, y, z, w]) (List.range rows.length) (fun (i : Nat) => PyData.int (i : Nat)) (fun i => L1 (rows.getD i [])) (by have := enumP_LL rows; simp only [L1] at this; simp [this]) ⟨.no, .no, .no, .no, by simp [pairsTo]⟩ ?_ ?_
  · rintro i hi ρ ⟨x, y, z, w, rfl⟩
    have hi' : i < rows.length := by simpa using hi
    have hr := W.len _ (getD_mem hi')
    simp
    refine stp_forTE (fun j ρ => ∃ z w, ρ = [.im (LL rows), .im (LL shares), .ow 0 (ppE (pairsTo (envyB rows shares) rows.length i ++ rowPairs (envyB rows shares) i j)), .im (.int i), .im (L1 (rows.getD i [])), z, w]) (List.range shares.length) (fun (i : Nat) => PyData.int (i : Nat)) (fun i => L1 (shares.getD i [])) (by have := enumP_LL shares; simp only [L1] at this; simp [this]) ⟨z, w, by simp [rowPairs]⟩ ?_ ?_
    · rintro j hj ρ ⟨z, w, rfl⟩
      have hj' : j < shares.length := by simpa using hj
      have hi2 : i < shares.length := by omega
      have b1 := prefers_eq (rows.getD i []) (shares.getD j []) (shares.getD i []) (by rw [hr]; exact S.num _ (getD_mem hj')) (by rw [hr]; exact S.num _ (getD_mem hi2)) (by have := S.slen (getD_mem hj'); omega) (by have := S.slen (getD_mem hi2); omega)
      have b2 : (pairsTo (envyB rows shares) rows.length i).length + (rowPairs (envyB rows shares) i j).length ≤ 100000 := by
        have := pairsTo_len (envyB rows shares) rows.length i
        have := sq8 (show i ≤ 8 by omega) n8
        have := rowPairs_len (envyB rows shares) i j
        omega
      simp only [L1] at b1
      cases c : envyB rows shares i j with
      | true =>
        have c' := c
        simp only [envyB] at c'
        rw [c'] at b1
        simp [-List.getD_eq_getElem?_getD, b1, atI_map, at_getD hi2, b2]
        refine stp_nx ?_
        exact ⟨.im (.int j), .im (L1 (shares.getD j [])), by rw [rowPairs_succ, c]; simp⟩
      | false =>
        have c' := c
        simp only [envyB] at c'
        rw [c'] at b1
        simp [-List.getD_eq_getElem?_getD, b1, atI_map, at_getD hi2]
        refine stp_nx ?_
        exact ⟨.im (.int j), .im (L1 (shares.getD j [])), by rw [rowPairs_succ, c]; simp⟩
    · rintro ρ ⟨z, w, rfl⟩
      rw [pairsTo_succ]
      exact ⟨.im (.int i), .im (L1 (rows.getD i [])), z, w, by simp [hl]⟩
  · rintro ρ ⟨x, y, z, w, rfl⟩
    simp
/-! #### maths: lawsum -/
theorem lsum_eq (row things : List Int) (hb : ∀ t ∈ things, 0 ≤ t ∧ t < (row.length : Int)) : f__law_sum [L1 row, L1 things] = .ok (.im (.int (tot row things))) := by
  unfold f__law_sum
  rw [den_eq]
  simp [d__law_sum]
  refine fin_for (fun i ρ => ∃ x, ρ = [.im (L1 row), .im (L1 things), .im (.int (tot row (things.take i))), x]) things PyData.int (by simp) ⟨.no, by simp [tot]⟩ ?_ ?_
  · rintro i hi ρ ⟨x, rfl⟩
    have b1 := atI_getD (hb things[i] (List.getElem_mem hi))
    simp [atI_map, b1]
    refine stp_nx ?_
    have t1 : tot row (things.take (i + 1)) = tot row (things.take i) + row.getD things[i].toNat 0 := by
      rw [show things.take (i + 1) = things.take i ++ [things[i]] by simp]
      simp only [tot, List.map_append, List.sum_append, List.map_cons, List.map_nil, List.sum_cons, List.sum_nil, Int.add_zero]
    exact ⟨.im (.int things[i]), by rw [t1]; simp⟩
  · rintro ρ ⟨x, rfl⟩
    simp
/-! #### maths: lawcopy -/
theorem copy_eq (rows : List (List Int)) (hl : rows.length ≤ 100000) : f__law_copy [LL rows] = .ok (.fr 1 (T2 rows)) := by
  unfold f__law_copy
  rw [den_eq]
  have c1 := lcFD_all (n := 0) (s := itJ (varD 0)) (vs := [1]) (k := .nm 1) (e := listD (consA (varD 1) nilA)) (ρ := [.im (LL rows), .no]) rows (fun r => L1 r) (fun r => T1 r) (by simp) hl (fun x hx => ⟨_, rfl, by simp⟩)
  have c2 : (@List.map (List Int) (Ty 1) (fun r => T1 r) rows) = T2 rows := rfl
  rw [c2] at c1
  simp only [LL, L1, T2] at c1
  simp [d__law_copy, c1]
/-! #### maths: calls2a -/
theorem call2 {f : List PD → Out R} {a b : ED} {ρ : Z.Env} {r1 r2 r : R} {d1 d2 : PD} (h1 : a ρ = .ok r1) (h2 : b ρ = .ok r2) (q1 : r1.dat = d1) (q2 : r2.dat = d2) (hf : f [d1, d2] = .ok r) (hfl : r.flat = true) : callD f (consA a (consA b nilA)) ρ = .ok r := by
  unfold callD
  simp only [consA, nilA, h1, bind_ok, h2, List.map_cons, List.map_nil, R.fz_dat, q1, q2, hf]
  simp only [hfl, if_true, ite_self]
theorem call3 {f : List PD → Out R} {a b c : ED} {ρ : Z.Env} {r1 r2 r3 r : R} {d1 d2 d3 : PD} (h1 : a ρ = .ok r1) (h2 : b ρ = .ok r2) (h3 : c ρ = .ok r3) (q1 : r1.dat = d1) (q2 : r2.dat = d2) (q3 : r3.dat = d3) (hf : f [d1, d2, d3] = .ok r) (hfl : r.flat = true) : callD f (consA a (consA b (consA c nilA))) ρ = .ok r := by
  unfold callD
  simp only [consA, nilA, h1, bind_ok, h2, h3, List.map_cons, List.map_nil, R.fz_dat, q1, q2, q3, hf]
  simp only [hfl, if_true, ite_self]
theorem cmp_ok {f : PD → PD → Option PD} {a b : ED} {ρ : Z.Env} {r1 r2 : R} {d1 d2 d : PD} (h1 : a ρ = .ok r1) (h2 : b ρ = .ok r2) (q1 : r1.dat = d1) (q2 : r2.dat = d2) (hf : f d1 d2 = some d) : binR f a b ρ = .ok (.im d) := by
  unfold binR
  rw [h1, bind_ok, h2, bind_ok, q1, q2, hf]
theorem len_ok {a : ED} {ρ : Z.Env} {r : R} {ds : List PD} (h : a ρ = .ok r) (q : r.dat = .list ds) : cbD lenF (consA a nilA) ρ = .ok (.im (.int (ds.length : Nat))) := by
  unfold cbD
  simp only [consA, nilA, h, bind_ok, List.map_cons, List.map_nil, R.fz_dat, q, e_len1]
theorem ix_ok {a b : ED} {ρ : Z.Env} {r1 r : R} {k : Int} (h1 : a ρ = .ok r1) (h2 : b ρ = .ok (.im (.int k))) (h : ixF r1.fz k = some r) : ixD a b ρ = .ok r := by
  unfold ixD
  rw [h1, bind_ok, h2, bind_ok]
  simp only [e_dat1, h]
/-! #### maths: line -/
/-! the order of those whom nobody (that is left) envies -/
def unenv (e : Nat → Nat → Bool) (l : List Nat) : Option Nat := l.find? fun o => !(l.any fun h => e h o)
theorem unenv_some {e : Nat → Nat → Bool} {l : List Nat} {x : Nat} (h : unenv e l = some x) : x ∈ l ∧ ∀ y ∈ l, e y x = false := by
  unfold unenv at h
  have h1 := List.find?_some h
  have h2 := List.mem_of_find?_eq_some h
  refine ⟨h2, fun y hy => ?_⟩
  simp only [Bool.not_eq_true', List.any_eq_false] at h1
  simpa using h1 y hy
theorem unenv_none {e : Nat → Nat → Bool} {l : List Nat} (h : unenv e l = none) : ∀ o ∈ l, ∃ y ∈ l, e y o = true := by
  intro o ho
  unfold unenv at h
  rw [List.find?_eq_none] at h
  have := h o ho
  simp only [Bool.not_eq_true, Bool.not_eq_false', List.any_eq_true] at this
  simpa using this
/-- front: who stands in it is envied by such only as stand ahead of it -/
structure Front (e : Nat → Nat → Bool) (n : Nat) (front left : List Nat) : Prop where
  perm : (front ++ left).Perm (List.range n)
  ord : ∀ (p : Nat) (hp : p < front.length) (y : Nat), y < n → e y front[p] = true → ∃ q, ∃ hq : q < front.length, q < p ∧ front[q] = y
theorem Front.step {e : Nat → Nat → Bool} {n : Nat} {front left : List Nat} {x : Nat} (F : Front e n front left) (hu : unenv e left = some x) : Front e n (front ++ [x]) (left.erase x) := by
  obtain ⟨hx, hn⟩ := unenv_some hu
  refine ⟨?_, fun p hp y hy he => ?_⟩
  · rw [List.append_assoc]
    exact (List.Perm.append_left front (List.perm_cons_erase hx).symm).trans F.perm
  · by_cases c : p < front.length
    · rw [List.getElem_append_left c] at he
      obtain ⟨q, hq, h1, h2⟩ := F.ord p c y hy he
      refine ⟨q, by simp; omega, h1, ?_⟩
      rw [List.getElem_append_left hq]
      exact h2
    · have pe : p = front.length := by simp at hp; omega
      subst pe
      have he' : e y x = true := by simpa using he
      have hy2 : y ∈ front ++ left := F.perm.mem_iff.mpr (List.mem_range.mpr hy)
      rcases List.mem_append.mp hy2 with h | h
      · obtain ⟨q, hq, e2⟩ := List.mem_iff_getElem.mp h
        refine ⟨q, by simp; omega, hq, ?_⟩
        rw [List.getElem_append_left hq]
        exact e2
      · rw [hn y h] at he'
        cases he'
/-- what the walk of front_of_line comes to -/
def walkL (e : Nat → Nat → Bool) : Nat → List Nat → List Nat → List Nat × List Nat
  | 0, front, left => (front, left)
  | k + 1, front, left => match unenv e left with
    | none => (front, left)
    | some x => walkL e k (front ++ [x]) (left.erase x)
theorem walkL_ok (e : Nat → Nat → Bool) (n : Nat) : ∀ (k : Nat) (front left : List Nat), Front e n front left → left.length ≤ k → Front e n (walkL e k front left).1 (walkL e k front left).2 ∧ unenv e (walkL e k front left).2 = none
  | 0, front, left, F, h => by
    have : left = [] := List.length_eq_zero_iff.mp (by omega)
    subst this
    exact ⟨F, rfl⟩
  | k + 1, front, left, F, h => by
    unfold walkL
    cases hu : unenv e left with
    | none => exact ⟨F, hu⟩
    | some x =>
      have hl : (left.erase x).length = left.length - 1 := List.length_erase_of_mem (unenv_some hu).1
      exact walkL_ok e n k _ _ (F.step hu) (by omega)
def frontOf (e : Nat → Nat → Bool) (n : Nat) : List Nat := (walkL e n [] (List.range n)).1
def restOf (e : Nat → Nat → Bool) (n : Nat) : List Nat := (walkL e n [] (List.range n)).2
theorem front_ok (e : Nat → Nat → Bool) (n : Nat) : Front e n (frontOf e n) (restOf e n) ∧ unenv e (restOf e n) = none :=
  walkL_ok e n n [] (List.range n) ⟨by simp, fun p hp => absurd hp (by simp)⟩ (by simp)
/-! #### maths: front -/
theorem mem_pairs_iff {e : Nat → Nat → Bool} {n a b : Nat} (ha : a < n) (hb : b < n) : ((a, b) ∈ pairsTo e n n) ↔ e a b = true :=
  ⟨fun h => (mem_pairs h).2.2, fun h => pairs_mem ha hb h⟩
def optP : Option Nat → PD
  | some x => .int (x : Nat)
  | none => .none
@[simp] theorem optP_some (x : Nat) : optP (some x) = .int (x : Nat) := rfl
@[simp] theorem optP_none : optP none = .none := rfl
@[simp] theorem lf_optP (o : Option Nat) : lf (optP o) = true := by cases o <;> simp [optP]
theorem unenvied_eq (e : Nat → Nat → Bool) (n : Nat) (l : List Nat) (hl : ∀ x ∈ l, x < n) (len : l.length ≤ 100000) :
    f_unenvied [.list (ppE (pairsTo e n n)), LN l] = .ok (.im (optP (unenv e l))) := by
  unfold f_unenvied
  rw [den_eq]
  have fx := fin_find (b := .nm 2) (s := itD (varD 1)) (ρ := [.im (.list (ppE (pairsTo e n n))), .im (LN l), .no, .no]) (B := retD (cD .none)) (body := ifD (notT (tstD (cbD anyF (consA (lcD (itJ (varD 1)) [3] (.nm 3) yesT (binR inF (tupD (consA (varD 3) (consA (varD 2) nilA))) (varD 0))) nilA)))) (retVD 2) (fun ρ => .nx ρ)) (o := .ok (.im .none))
    (fun ρ => ∃ x y, ρ = [.im (.list (ppE (pairsTo e n n))), .im (LN l), x, y]) l (fun (k : Nat) => PyData.int k) (fun k ρ => ρ.set 2 (.im (.int k))) (fun o => !(l.any fun h => e h o)) (fun o => .im (.int o)) (fun _ _ => rfl) (by simp) ⟨_, _, rfl⟩ ?_ ?_
  · have e2 : (List.map Ent.im [.list (ppE (pairsTo e n n)), LN l] ++ List.replicate (4 - 2) Ent.no) = [.im (.list (ppE (pairsTo e n n))), .im (LN l), .no, .no] := rfl
    rw [e2]
    refine Eq.trans fx ?_
    unfold unenv
    cases l.find? fun o => !(l.any fun h => e h o) <;> rfl
  · rintro o ho ρ ⟨x, y, rfl⟩
    have lc := lcD_im (s := itJ (varD 1)) (vs := [3]) (k := .nm 3) (e := binR inF (tupD (consA (varD 3) (consA (varD 2) nilA))) (varD 0)) (ρ := [.im (.list (ppE (pairsTo e n n))), .im (LN l), .im (.int o), y]) l (fun (k : Nat) => PyData.int k) (fun h => .bool (e h o)) (by simp) len (fun h hh => ⟨_, rfl, by
      have q := inF_pp (h, o) (pairsTo e n n)
      have d : decide ((h, o) ∈ pairsTo e n n) = e h o := by
        cases c : e h o with
        | true => exact decide_eq_true ((mem_pairs_iff (hl h hh) (hl o ho)).mpr c)
        | false => exact decide_eq_false fun m => by rw [(mem_pairs_iff (hl h hh) (hl o ho)).mp m] at c; cases c
      rw [d] at q
      simp only [PP] at q
      simp [q]⟩)
    simp only [LN, TN, ppE] at lc
    refine ⟨fun h => ?_, fun h => ?_⟩
    · have h' : (l.any fun h => e h o) = true := by simpa using h
      simp [lc, h']
      have h2 : (∃ x, x ∈ l ∧ e x o = true) := by simpa using h'
      try simp [h2]
      try (refine stp_nx ?_; exact ⟨_, _, rfl⟩)
    · have h' : (l.any fun h => e h o) = false := by simpa using h
      simp [lc, h']
  · rintro ρ ⟨x, y, rfl⟩
    simp
theorem front_eq (e : Nat → Nat → Bool) (n : Nat) (n8 : n ≤ 8) : f_front_of_line [.list (ppE (pairsTo e n n)), .int n] = .ok (.fr 0 (TN (frontOf e n))) := by
  have a3 : (-100000 : Int) ≤ (n : Int) ∧ (n : Int) ≤ 100000 := by omega
  have u0 := unenvied_eq e n (List.range n) (fun x hx => by simpa using hx) (by simp; omega)
  have r0 : (rangeL 0 (n : Int)).map PyData.int = TN (List.range n) := rg_all n
  have key : ∃ ρ', whileN (tstD (binR nNF (varD 4) (cD .none))) (seqD (appD 2 (ownQ 2) (varD 4)) (seqD (remD 3 (varD 4)) (asgD 4 (callD f_unenvied (consA (varD 0) (consA (varD 3) nilA)))))) 1000000 [.im (.list (ppE (pairsTo e n n))), .im (.int n), .ow 0 (TN []), .ow 0 (TN (List.range n)), .im (optP (unenv e (List.range n)))] = .nx ρ' ∧ ∃ x, ∃ y, ρ' = [.im (.list (ppE (pairsTo e n n))), .im (.int n), .ow 0 (TN (frontOf e n)), x, y] := by
    refine while_inv (fun k ρ => ∃ front left, ρ = [.im (.list (ppE (pairsTo e n n))), .im (.int n), .ow 0 (TN front), .ow 0 (TN left), .im (optP (unenv e left))] ∧ (front ++ left).Perm (List.range n) ∧ left.length ≤ k ∧ (walkL e k front left).1 = frontOf e n) (fun ρ' => ∃ x, ∃ y, ρ' = [.im (.list (ppE (pairsTo e n n))), .im (.int n), .ow 0 (TN (frontOf e n)), x, y]) ?_ n 1000000 _ (by omega) ⟨[], List.range n, rfl, by simp, by simp, rfl⟩
    rintro k ρ ⟨front, left, rfl, hp, hk, hw⟩
    cases hu : unenv e left with
    | none =>
      refine .inl ⟨by simp, ?_⟩
      have : (walkL e k front left).1 = front := by
        cases k with
        | zero => rfl
        | succ k => unfold walkL; rw [hu]
      rw [this] at hw
      exact ⟨_, _, by rw [← hw]⟩
    | some x =>
      have hx := (unenv_some hu).1
      cases k with
      | zero =>
        have : left = [] := List.length_eq_zero_iff.mp (by omega)
        subst this
        cases hx
      | succ k =>
        have len : front.length + left.length = n := by
          have := hp.length_eq
          simpa using this
        have hl : (left.erase x).length = left.length - 1 := List.length_erase_of_mem hx
        have p2 : (front ++ [x] ++ left.erase x).Perm (List.range n) := by
          rw [List.append_assoc]
          exact (List.Perm.append_left front (List.perm_cons_erase hx).symm).trans hp
        have u1 := unenvied_eq e n (left.erase x) (fun y hy => by
          have := hp.mem_iff.mp (List.mem_append_right front (List.mem_of_mem_erase hy))
          simpa using this) (by omega)
        refine .inr ⟨k, rfl, by simp, ?_⟩
        have rm := rem_nat (i := 3) (ρ := [.im (.list (ppE (pairsTo e n n))), .im (.int n), .ow 0 (TN (front ++ [x])), .ow 0 (TN left), .im (.int x)]) (l := left) (x := x) (e := varD 4) rfl rfl hx
        have fl : front.length ≤ 100000 := by omega
        simp only [LN, TN, ppE, PP, List.map_append, List.map_cons, List.map_nil] at u1 rm
        simp [fl, rm, u1]
        refine stp_nx ?_
        refine ⟨front ++ [x], left.erase x, ?_, p2, by omega, ?_⟩
        · simp
        · have : walkL e (k + 1) front left = walkL e k (front ++ [x]) (left.erase x) := by
            show (match unenv e left with
              | none => (front, left)
              | some x => walkL e k (front ++ [x]) (left.erase x)) = _
            rw [hu]
          rw [← this]
          exact hw
  obtain ⟨ρ', e1, x, y, rfl⟩ := key
  unfold f_front_of_line
  rw [den_eq]
  simp only [LN, TN, ppE, PP] at u0 r0 e1
  have e2 := @seq_of _ (retVD 2) _ _ e1
  simp [d_front_of_line, a3, r0, u0]
  refine (congrArg fin e2).trans ?_
  simp
/-! #### maths: ring -/
/-- a ring: each envies the next one, the last one the first -/
structure RingP (e : Nat → Nat → Bool) (n : Nat) (r : List Nat) : Prop where
  two : 2 ≤ r.length
  nd : r.Nodup
  lt : ∀ x ∈ r, x < n
  nx : ∀ (k : Nat) (h : k + 1 < r.length), e r[k] r[k + 1] = true
  la : ∀ (h : 0 < r.length), e (r[r.length - 1]'(by omega)) r[0] = true
/-- walked so far: each one behind envies the one ahead -/
structure Walk (e : Nat → Nat → Bool) (L w : List Nat) (h : Nat) : Prop where
  nd : w.Nodup
  sub : ∀ x ∈ w, x ∈ L
  hl : h ∈ L
  nx : ∀ (k : Nat) (hk : k + 1 < w.length), e w[k + 1] w[k] = true
  la : ∀ (hw : 0 < w.length), e h (w[w.length - 1]'(by omega)) = true
theorem Walk.step {e : Nat → Nat → Bool} {L w : List Nat} {h g : Nat} (W : Walk e L w h) (hn : h ∉ w) (hg : g ∈ L) (he : e g h = true) : Walk e L (w ++ [h]) g := by
  refine ⟨?_, fun x hx => ?_, hg, fun k hk => ?_, fun hw => ?_⟩
  · rw [List.nodup_append]
    exact ⟨W.nd, List.nodup_cons.mpr ⟨(fun h => nomatch h), List.nodup_nil⟩, fun a ha b hb => by
      have : b = h := by simpa using hb
      subst this
      intro e
      exact hn (e ▸ ha)⟩
  · rcases List.mem_append.mp hx with h1 | h1
    · exact W.sub x h1
    · have : x = h := by simpa using h1
      rw [this]
      exact W.hl
  · have hk' : k + 1 < w.length + 1 := by simpa using hk
    by_cases c : k + 1 < w.length
    · rw [List.getElem_append_left c, List.getElem_append_left (by omega)]
      exact W.nx k c
    · have ke : k + 1 = w.length := by omega
      have h1 : (w ++ [h])[k + 1] = h := by
        rw [List.getElem_append_right (by omega)]
        simp [ke]
      have h2 : (w ++ [h])[k] = w[k]'(by omega) := List.getElem_append_left (by omega)
      rw [h1, h2]
      have := W.la (by omega)
      have ek : w.length - 1 = k := by omega
      simp only [ek] at this
      exact this
  · have h1 : (w ++ [h])[(w ++ [h]).length - 1]'(by simp) = h := by simp
    rw [h1]
    exact he
theorem Walk.ring {e : Nat → Nat → Bool} {L w : List Nat} {h n : Nat} (W : Walk e L w h) (hm : h ∈ w) (hL : ∀ x ∈ L, x < n) (irr : ∀ x, e x x = false) : RingP e n ((w.drop (w.idxOf h)).reverse) := by
  have hp : w.idxOf h < w.length := List.idxOf_lt_length_of_mem hm
  have hg : w[w.idxOf h] = h := List.getElem_idxOf hp
  generalize hi : w.idxOf h = p at *
  have lw : 0 < w.length := by omega
  have lp : p + 1 < w.length := by
    rcases Nat.lt_or_ge (p + 1) w.length with c | c
    · exact c
    · exfalso
      have := W.la lw
      have ep : w.length - 1 = p := by omega
      simp only [ep, hg, irr] at this
      cases this
  have len : ((w.drop p).reverse).length = w.length - p := by simp
  have get : ∀ (k : Nat) (hk : k < ((w.drop p).reverse).length), ((w.drop p).reverse)[k] = w[w.length - 1 - k]'(by rw [len] at hk; omega) := by
    intro k hk
    rw [len] at hk
    rw [List.getElem_reverse, List.getElem_drop]
    congr 1
    simp
    omega
  refine ⟨by rw [len]; omega, ?_, fun x hx => ?_, fun k hk => ?_, fun h0 => ?_⟩
  · rw [List.Nodup, List.pairwise_reverse]
    exact (List.Pairwise.sublist (List.drop_sublist p w) W.nd).imp fun h => Ne.symm h
  · exact hL x (W.sub x (List.mem_of_mem_drop (List.mem_reverse.mp hx)))
  · rw [get k (by omega), get (k + 1) hk]
    rw [len] at hk
    have := W.nx (w.length - 1 - (k + 1)) (by omega)
    have e1 : w.length - 1 - (k + 1) + 1 = w.length - 1 - k := by omega
    simp only [e1] at this
    exact this
  · rw [get _ (by omega), get 0 h0]
    have := W.la lw
    have e1 : w.length - 1 - ((w.drop p).reverse.length - 1) = p := by rw [len]; omega
    simp only [e1, Nat.sub_zero, hg]
    exact this
theorem ring_among_eq (e : Nat → Nat → Bool) (n : Nat) (n8 : n ≤ 8) (L : List Nat) (nd : L.Nodup) (hL : ∀ x ∈ L, x < n) (ne : L ≠ []) (irr : ∀ x, e x x = false) (hen : ∀ o ∈ L, ∃ y ∈ L, e y o = true) :
    ∃ r, f_ring_among [.list (ppE (pairsTo e n n)), LN L] = .ok (.fr 0 (TN r)) ∧ RingP e n r := by
  obtain ⟨x0, xs, eL⟩ : ∃ x0 xs, L = x0 :: xs := by
    cases L with
    | nil => exact absurd rfl ne
    | cons a b => exact ⟨a, b, rfl⟩
  have lL : L.length ≤ n := by
    have : L ⊆ List.range n := fun x hx => List.mem_range.mpr (hL x hx)
    simpa using List.Nodup.length_le_of_subset nd this
  have a0 : atI (TN L) 0 = some (.int (x0 : Nat)) := by rw [eL]; simp [atI, ixN]
  have key : ∃ ρ', whileN (tstD (binR niF (varD 3) (varD 2))) (seqD (appD 2 (ownQ 2) (varD 3)) (asgD 3 (ixD (lcD (itJ (varD 1)) [5] (.nm 5) (tstD (binR inF (tupD (consA (varD 5) (consA (varD 3) nilA))) (varD 0))) (varD 5)) (cD (.int 0))))) 1000000 [.im (.list (ppE (pairsTo e n n))), .im (LN L), .ow 0 (TN []), .im (.int (x0 : Nat)), .no, .no] = .nx ρ' ∧ ∃ w h x y, ρ' = [.im (.list (ppE (pairsTo e n n))), .im (LN L), .ow 0 (TN w), .im (.int (h : Nat)), x, y] ∧ Walk e L w h ∧ h ∈ w := by
    refine while_inv (fun k ρ => ∃ w h x y, ρ = [.im (.list (ppE (pairsTo e n n))), .im (LN L), .ow 0 (TN w), .im (.int (h : Nat)), x, y] ∧ Walk e L w h ∧ L.length ≤ w.length + k) (fun ρ' => ∃ w h x y, ρ' = [.im (.list (ppE (pairsTo e n n))), .im (LN L), .ow 0 (TN w), .im (.int (h : Nat)), x, y] ∧ Walk e L w h ∧ h ∈ w) ?_ n 1000000 _ (by omega) ⟨[], x0, .no, .no, rfl, ⟨List.nodup_nil, (fun _ h => nomatch h), by rw [eL]; exact List.mem_cons_self, (fun k hk => absurd hk (by simp)), (fun h => absurd h (by simp))⟩, by simp; exact lL⟩
    rintro k ρ ⟨w, h, x, y, rfl, W, hk⟩
    have nf := niF_nat w h
    by_cases c : h ∈ w
    · refine .inl ⟨?_, w, h, x, y, rfl, W, c⟩
      simp only [c, decide_true, TN] at nf
      simp [nf]
    · have wl : w.length < L.length := by
        have s1 : (h :: w) ⊆ L := fun z hz => by
          rcases List.mem_cons.mp hz with rfl | hz
          · exact W.hl
          · exact W.sub z hz
        have := List.Nodup.length_le_of_subset (List.nodup_cons.mpr ⟨c, W.nd⟩) s1
        have : w.length + 1 ≤ L.length := by simpa using this
        omega
      obtain ⟨j, rfl⟩ : ∃ j, k = j + 1 := ⟨k - 1, by omega⟩
      refine .inr ⟨j, rfl, ?_, ?_⟩
      · simp only [c, decide_false, TN] at nf
        simp [nf]
      · have hh := hL h W.hl
        have lc := lcD_filt (s := itJ (varD 1)) (vs := [5]) (k := .nm 5) (t := tstD (binR inF (tupD (consA (varD 5) (consA (varD 3) nilA))) (varD 0))) (e := varD 5) (ρ := [.im (.list (ppE (pairsTo e n n))), .im (LN L), .ow 0 (TN (w ++ [h])), .im (.int (h : Nat)), x, y]) L (fun (k : Nat) => PyData.int k) (fun (k : Nat) => PyData.int k) (fun o => e o h) (by simp) (by omega) (fun o ho => ⟨_, rfl, by
            have q := inF_pp (o, h) (pairsTo e n n)
            have d : decide ((o, h) ∈ pairsTo e n n) = e o h := by
              cases c : e o h with
              | true => exact decide_eq_true ((mem_pairs_iff (hL o ho) hh).mpr c)
              | false => exact decide_eq_false fun m => by rw [(mem_pairs_iff (hL o ho) hh).mp m] at c; cases c
            rw [d] at q
            simp only [PP] at q
            simp [q], fun _ => by simp⟩)
        obtain ⟨y0, hy0, ey0⟩ := hen h W.hl
        have fm : y0 ∈ L.filter fun o => e o h := List.mem_filter.mpr ⟨hy0, ey0⟩
        obtain ⟨g, gs, eg⟩ : ∃ g gs, (L.filter fun o => e o h) = g :: gs := by
          cases hf : (L.filter fun o => e o h) with
          | nil => rw [hf] at fm; cases fm
          | cons a b => exact ⟨a, b, rfl⟩
        have hg : g ∈ L.filter fun o => e o h := by rw [eg]; exact List.mem_cons_self
        have hg' := List.mem_filter.mp hg
        rw [eg] at lc
        have a1 : ∀ (b : List PD), atI (PyData.int (g : Int) :: b) 0 = some (.int (g : Int)) := fun b => by simp [atI, ixN]
        have fl : w.length ≤ 100000 := by omega
        simp only [LN, TN, ppE, PP, List.map_append, List.map_cons, List.map_nil] at lc
        simp [fl, lc, a1]
        refine stp_nx ?_
        exact ⟨w ++ [h], g, ⟨x, y, by simp⟩, W.step c hg'.1 (by simpa using hg'.2), by simp; omega⟩
  obtain ⟨ρ', e1, w, h, x, y, rfl, W, hm⟩ := key
  refine ⟨(w.drop (w.idxOf h)).reverse, ?_, W.ring hm hL irr⟩
  have hp : w.idxOf h < w.length := List.idxOf_lt_length_of_mem hm
  have ix := index_nat w h hm
  have ct := cut_from (TN w) (w.idxOf h) (by simp; omega)
  have rv : ((TN w).drop (w.idxOf h)).reverse = TN ((w.drop (w.idxOf h)).reverse) := by
    simp [TN, List.map_drop]
  unfold f_ring_among
  rw [den_eq]
  have e2 := @seq_of _ (seqD (asgD 4 (slD (varD 2) (soO (indexD (varD 2) (varD 3))) noO)) (retD (revD (varD 4)))) _ _ e1
  simp only [LN, TN] at a0 ix ct rv
  simp [d_ring_among, a0]
  refine (congrArg fin e2).trans ?_
  simp [indexD, ix, ct]
/-! #### maths: rings10 -/
def restL (e : Nat → Nat → Bool) (n : Nat) : List Nat := (List.range n).filter fun x => !decide (x ∈ frontOf e n)
theorem restL_mem (e : Nat → Nat → Bool) (n : Nat) (x : Nat) : x ∈ restL e n ↔ x ∈ restOf e n := by
  have F := (front_ok e n).1
  have nd : (frontOf e n ++ restOf e n).Nodup := F.perm.nodup_iff.mpr List.nodup_range
  have nd3 := (List.nodup_append.mp nd).2.2
  unfold restL
  rw [List.mem_filter, List.mem_range]
  constructor
  · rintro ⟨h1, h2⟩
    have : x ∈ frontOf e n ++ restOf e n := F.perm.mem_iff.mpr (List.mem_range.mpr h1)
    rcases List.mem_append.mp this with h | h
    · simp [h] at h2
    · exact h
  · intro h
    refine ⟨List.mem_range.mp (F.perm.mem_iff.mp (List.mem_append_right _ h)), ?_⟩
    have : ¬x ∈ frontOf e n := fun hf => nd3 x hf x h rfl
    simp [this]
theorem restL_nd (e : Nat → Nat → Bool) (n : Nat) : (restL e n).Nodup := List.Nodup.sublist List.filter_sublist List.nodup_range
theorem restL_lt (e : Nat → Nat → Bool) (n : Nat) : ∀ x ∈ restL e n, x < n := fun x hx => List.mem_range.mp (List.mem_filter.mp hx).1
theorem restL_env (e : Nat → Nat → Bool) (n : Nat) : ∀ o ∈ restL e n, ∃ y ∈ restL e n, e y o = true := by
  intro o ho
  obtain ⟨y, hy, he⟩ := unenv_none (front_ok e n).2 o ((restL_mem e n o).mp ho)
  exact ⟨y, (restL_mem e n y).mpr hy, he⟩
theorem front_len (e : Nat → Nat → Bool) (n : Nat) : (frontOf e n).length + (restOf e n).length = n := by
  have := (front_ok e n).1.perm.length_eq
  simpa using this
theorem restL_nil (e : Nat → Nat → Bool) (n : Nat) : restL e n = [] ↔ (frontOf e n).length = n := by
  have l := front_len e n
  constructor
  · intro h
    have : restOf e n = [] := by
      cases hr : restOf e n with
      | nil => rfl
      | cons a b =>
        have := (restL_mem e n a).mpr (by rw [hr]; exact List.mem_cons_self)
        rw [h] at this
        cases this
    rw [this] at l
    simpa using l
  · intro h
    have hr : restOf e n = [] := List.length_eq_zero_iff.mp (by omega)
    cases hl : restL e n with
    | nil => rfl
    | cons a b =>
      have := (restL_mem e n a).mp (by rw [hl]; exact List.mem_cons_self)
      rw [hr] at this
      cases this
theorem envyB_irr (rows shares : List (List Int)) (x : Nat) : envyB rows shares x x = false := by
  simp only [envyB, Int.lt_irrefl, decide_false]
theorem TN_all (l : List Nat) : (TN l).all lf = true := by
  rw [List.all_eq_true]
  intro d hd
  obtain ⟨k, _, rfl⟩ := List.mem_map.mp hd
  rfl
theorem ring_eq {rows shares : List (List Int)} {m : Nat} (W : WfT rows m) (hl : shares.length = rows.length) (S : WfS m shares) :
    (restL (envyB rows shares) rows.length = [] → f_ring [LL rows, LL shares] = .ok (.im .none)) ∧
    (restL (envyB rows shares) rows.length ≠ [] → ∃ r, f_ring [LL rows, LL shares] = .ok (.fr 0 (TN r)) ∧ RingP (envyB rows shares) rows.length r) := by
  have n8 := W.h8
  have a3 : (-100000 : Int) ≤ (rows.length : Int) ∧ (rows.length : Int) ≤ 100000 := by omega
  have e0 := envies_eq W hl S
  have f0 := front_eq (envyB rows shares) rows.length n8
  have irr := envyB_irr rows shares
  have ra := ring_among_eq (envyB rows shares) rows.length n8 (restL (envyB rows shares) rows.length) (restL_nd _ _) (restL_lt _ _)
  have rn := restL_env (envyB rows shares) rows.length
  generalize envyB rows shares = e at *
  generalize hn : rows.length = n at *
  have lc : ∀ (y z : Ent) (p0 : List PD), lcD (rg1D (cbD lenF (consA (varD 0) nilA))) [5] (.nm 5) (tstD (binR niF (varD 5) (varD 3))) (varD 5) [.im (LL rows), .im (LL shares), .ow 0 p0, .ow 0 (TN (frontOf e n)), y, z] = .ok (.fr 0 (TN (restL e n))) := fun y z p0 =>
    lcD_filt (List.range n) (fun (k : Nat) => PyData.int k) (fun (k : Nat) => PyData.int k) (fun x => !decide (x ∈ frontOf e n)) (by simp [hn, a3]) (by simp; omega) fun x hx => ⟨_, rfl, by
      have q := niF_nat (frontOf e n) x
      simp only [TN] at q
      simp [q], fun _ => by simp⟩
  have fa := TN_all (frontOf e n)
  simp only [LL, L1, LN, TN, ppE] at e0 f0 lc ra fa
  refine ⟨fun h => ?_, fun h => ?_⟩
  · rw [h] at lc
    unfold f_ring
    rw [den_eq]
    simp [d_ring, e0, f0, hn, lc]
  · obtain ⟨r, r1, r2⟩ := ra h irr rn
    refine ⟨r, ?_, r2⟩
    have ta := TN_all r
    have hne : (restL e n).isEmpty = false := by
      cases hr : restL e n with
      | nil => exact absurd hr h
      | cons a b => rfl
    simp only [TN] at ta r1
    unfold f_ring
    rw [den_eq]
    simp [d_ring, e0, f0, hn, lc, hne, r1]
/-! #### maths: tn -/
theorem TN_at {l : List Nat} {k : Nat} (h : k < l.length) : atI (TN l) (k : Int) = some (.int (l[k] : Nat)) := by
  rw [atI_nat _ _ (by omega) (by simp; omega)]
  simp [h]
theorem TN_last {l : List Nat} (h : 0 < l.length) : atI (TN l) (-1) = some (.int ((l[l.length - 1]'(by omega)) : Nat)) := by
  unfold atI ixN
  have h1 : ¬(0 : Int) ≤ -1 := by omega
  have h2 : -((TN l).length : Int) ≤ -1 := by simp; omega
  rw [if_neg h1, if_pos h2]
  have h3 : (-1 + ((TN l).length : Int)).toNat = l.length - 1 := by simp; omega
  simp only [Option.bind_some, h3]
  simp [TN, show l.length - 1 < l.length by omega]
/-! #### maths: done -/
def prev (n k : Nat) : Nat := if k = 0 then n - 1 else k - 1
theorem prev_lt {n k : Nat} (h : k < n) : prev n k < n := by unfold prev; split <;> omega
theorem prev_inj {n k j : Nat} (hk : k < n) (hj : j < n) (h : prev n k = prev n j) : k = j := by unfold prev at h; split at h <;> split at h <;> omega
theorem TN_prev {l : List Nat} {k : Nat} (h : k < l.length) : atI (TN l) ((k : Int) - 1) = some (.int ((l[prev l.length k]'(prev_lt h)) : Nat)) := by
  cases k with
  | zero =>
    have := TN_last (l := l) (by omega)
    simpa [prev] using this
  | succ j =>
    have e1 : ((j + 1 : Nat) : Int) - 1 = (j : Int) := by omega
    rw [e1, TN_at (by omega)]
    simp [prev]
/-- the ways of the rows that are done -/
def Done (R : List (List Int)) (way : List Nat) (k : Nat) : Prop := ∀ (j : Nat) (hj : j < way.length), j < k → (R.getD (way[prev way.length j]'(prev_lt hj)) []).getD (way[prev way.length j]'(prev_lt hj)) 0 < (R.getD (way[prev way.length j]'(prev_lt hj)) []).getD way[j] 0
theorem getD_set_ne {α : Type} {l : List α} {i j : Nat} {a d : α} (h : i ≠ j) : (l.set i a).getD j d = l.getD j d := by
  rw [List.getD_eq_getElem?_getD, List.getD_eq_getElem?_getD, List.getElem?_set_ne h]
theorem getD_set_eq {α : Type} {l : List α} {i : Nat} {a d : α} (h : i < l.length) : (l.set i a).getD i d = a := by
  rw [List.getD_eq_getElem?_getD, List.getElem?_set_self h]
  rfl
theorem done_step {R : List (List Int)} {way : List Nat} {k m : Nat} {own t : Int} (D : Done R way k) (nd : way.Nodup) (two : 2 ≤ way.length) (hk : k < way.length) (W : WfT R m) (hm : ∀ x ∈ way, x < m) (hR : ∀ x ∈ way, x < R.length) (ht : 0 ≤ t) :
    Done ((R.set (way[prev way.length k]'(prev_lt hk)) ((R.getD (way[prev way.length k]'(prev_lt hk)) []).set (way[prev way.length k]'(prev_lt hk)) own)).set (way[prev way.length k]'(prev_lt hk)) ((((R.set (way[prev way.length k]'(prev_lt hk)) ((R.getD (way[prev way.length k]'(prev_lt hk)) []).set (way[prev way.length k]'(prev_lt hk)) own))).getD (way[prev way.length k]'(prev_lt hk)) []).set way[k] (own + 1 + t))) way (k + 1) := by
  intro j hj hjk
  have ha := hR _ (List.getElem_mem (prev_lt hk))
  have hl := W.len _ (getD_mem ha)
  have hpk : prev way.length k ≠ k := by unfold prev; split <;> omega
  have hab : way[prev way.length k]'(prev_lt hk) ≠ way[k] := fun e => hpk ((List.getElem_inj (h₀ := prev_lt hk) (h₁ := hk) nd).mp e)
  have ham := hm _ (List.getElem_mem (prev_lt hk))
  have hbm := hm _ (List.getElem_mem hk)
  by_cases c : j = k
  · subst c
    generalize way[prev way.length j]'(prev_lt hj) = a at *
    generalize way[j] = b at *
    rw [getD_set_eq (by simpa using ha), getD_set_eq ha]
    rw [getD_set_ne (Ne.symm hab), getD_set_eq (by rw [hl]; exact ham), getD_set_eq (by rw [List.length_set, hl]; exact hbm)]
    omega
  · have hne : way[prev way.length k]'(prev_lt hk) ≠ way[prev way.length j]'(prev_lt hj) := fun e => c (prev_inj hj hk ((List.getElem_inj (h₀ := prev_lt hk) (h₁ := prev_lt hj) nd).mp e).symm)
    have := D j hj (by omega)
    rw [getD_set_ne hne, getD_set_ne hne]
    exact this
/-! #### maths: turn08 -/
structure Turn (held : List (List Int)) (way : List Nat) (D : List (List Int)) : Prop where
  len : D.length = held.length
  on : ∀ k, k < way.length → D.getD (way.getD (prev way.length k) 0) [] = held.getD (way.getD k 0) []
  off : ∀ v, v ∉ way → D.getD v [] = held.getD v []
theorem gd {l : List Nat} {k : Nat} (h : k < l.length) : l.getD k 0 = l[k] := by
  rw [List.getD_eq_getElem?_getD, List.getElem?_eq_getElem h]
  rfl
theorem gd_mem {l : List Nat} {k : Nat} (h : k < l.length) : l.getD k 0 ∈ l := by
  rw [gd h]
  exact List.getElem_mem h
theorem gd_inj {l : List Nat} {i j : Nat} (nd : l.Nodup) (hi : i < l.length) (hj : j < l.length) (h : l.getD i 0 = l.getD j 0) : i = j := by
  rw [gd hi, gd hj] at h
  exact (List.getElem_inj (h₀ := hi) (h₁ := hj) nd).mp h
theorem prev_surj {n j : Nat} (h : j < n) : ∃ k, k < n ∧ prev n k = j := by
  by_cases c : j + 1 = n
  · exact ⟨0, by omega, by simp [prev]; omega⟩
  · exact ⟨j + 1, by omega, by simp [prev]⟩
theorem mem_gd {l : List Nat} {v : Nat} (h : v ∈ l) : ∃ k, k < l.length ∧ v = l.getD (prev l.length k) 0 := by
  obtain ⟨j, hj, e⟩ := List.mem_iff_getElem.mp h
  obtain ⟨k, hk, ek⟩ := prev_surj hj
  exact ⟨k, hk, by rw [ek, gd hj, e]⟩
theorem Turn.uniq {held D E : List (List Int)} {way : List Nat} (A : Turn held way D) (B : Turn held way E) : D = E := by
  apply List.ext_getElem (A.len.trans B.len.symm)
  intro i h1 h2
  have key : D.getD i [] = E.getD i [] := by
    by_cases c : i ∈ way
    · obtain ⟨k, hk, e⟩ := mem_gd c
      rw [e, A.on k hk, B.on k hk]
    · rw [A.off i c, B.off i c]
  simpa [List.getD_eq_getElem?_getD, h1, h2] using key
theorem told_len (way : List Nat) (s : Nat) (hs : s < way.length) : (way.drop s ++ way.take s).length = way.length := by
  rw [List.length_append, List.length_drop, List.length_take]
  omega
theorem told_at (way : List Nat) (s k : Nat) (hs : s < way.length) (hk : k < way.length) : (way.drop s ++ way.take s).getD k 0 = way.getD (if k < way.length - s then s + k else k - (way.length - s)) 0 := by
  rw [List.getD_eq_getElem?_getD, List.getD_eq_getElem?_getD]
  by_cases c : k < way.length - s
  · rw [if_pos c, List.getElem?_append_left (by rw [List.length_drop]; exact c), List.getElem?_drop]
  · rw [if_neg c, List.getElem?_append_right (by rw [List.length_drop]; omega), List.length_drop, List.getElem?_take, if_pos (by omega)]
theorem Turn.rot {held D : List (List Int)} {way : List Nat} {s : Nat} (hs : s < way.length) (T : Turn held (way.drop s ++ way.take s) D) : Turn held way D := by
  have tl := told_len way s hs
  refine ⟨T.len, fun k hk => ?_, fun v hv => T.off v fun h => hv ?_⟩
  · obtain ⟨k', ek⟩ : ∃ k', k' = if s ≤ k then k - s else k + way.length - s := ⟨_, rfl⟩
    have hk' : k' < way.length := by rw [ek]; split <;> omega
    have h := T.on k' (by rw [tl]; exact hk')
    rw [tl, told_at way s _ hs (prev_lt hk'), told_at way s _ hs hk'] at h
    have e1 : (if k' < way.length - s then s + k' else k' - (way.length - s)) = k := by rw [ek]; split <;> split <;> omega
    have e2 : (if prev way.length k' < way.length - s then s + prev way.length k' else prev way.length k' - (way.length - s)) = prev way.length k := by
      unfold prev
      rw [ek]
      split <;> split <;> split <;> split <;> omega
    rw [e1, e2] at h
    exact h
  · rcases List.mem_append.mp h with q | q
    · exact List.mem_of_mem_drop q
    · exact List.mem_of_mem_take q
/-! ### the program -/
theorem lzip_ok {a b : ED} {ρ : Z.Env} {r1 r2 : R} {ds es : List PD} (h1 : a ρ = .ok r1) (h2 : b ρ = .ok r2) (q1 : kidsS r1.fz = some ds) (q2 : kidsS r2.fz = some es) (hl : ds.length = es.length) (hn : ds.length ≤ 100000) : lzipD a b ρ = .ok (.fr 0 (zipL ds es)) := by
  unfold lzipD
  rw [h1, bind_ok, h2, bind_ok, q1, q2]
  simp only [hl ▸ hn, hl, true_and, if_true]
theorem zipL_TN : ∀ (a b : List Nat), zipL (TN a) (TN b) = ppE (a.zip b)
  | [], _ => rfl
  | _ :: _, [] => rfl
  | x :: a, y :: b => by
    have := zipL_TN a b
    simp only [zipL, TN, List.map_cons, List.zip_cons_cons, ppE] at this ⊢
    rw [this]
theorem kidsS_fr0 (l : List PD) : kidsS (R.fz (.fr 0 l)) = some l := by rw [e_fzf0]; rfl
theorem kids_fr0 (l : List PD) : kids (R.fz (.fr 0 l)) = some l := by rw [e_fzf0]; rfl
theorem addD_ok {a b : ED} {ρ : Z.Env} {r1 r2 : R} {ds es : List PD} (h1 : a ρ = .ok r1) (h2 : b ρ = .ok r2) (q1 : r1.dat = .list ds) (q2 : r2.dat = .list es) (k1 : kids r1.fz = some ds) (k2 : kids r2.fz = some es) (hl : ds.length + es.length ≤ 100000) : addD a b ρ = .ok (.fr 0 (ds ++ es)) := by
  unfold addD
  rw [h1, bind_ok, h2, bind_ok, q1, q2]
  simp only [k1, k2, hl, if_true]
theorem sl_to {P : List PD} {ρ : Z.Env} {a e : ED} {one : Nat} (h0 : a ρ = .ok (.im (.list P))) (h2 : e ρ = .ok (.im (.int (one : Nat)))) (h : one ≤ P.length) : slD a noO (soO e) ρ = .ok (.fr 0 (P.take one)) := by
  have e1 : @cutL PD P none (some (one : Int)) = P.take one := cut_to P one h
  simp [slD, h0, h2]
  exact congrArg (R.fr 0) e1
theorem sl_of {P : List PD} {ρ : Z.Env} {a e : ED} {one : Nat} (h0 : a ρ = .ok (.im (.list P))) (h2 : e ρ = .ok (.im (.int (one : Nat)))) (h : one ≤ P.length) : slD a (soO e) noO ρ = .ok (.fr 0 (P.drop one)) := by
  have e1 : @cutL PD P (some (one : Int)) none = P.drop one := cut_from P one h
  simp [slD, h0, h2]
  exact congrArg (R.fr 0) e1
def nexts (l : List Nat) : List Nat := l.drop 1 ++ l.take 1
theorem nexts_len (l : List Nat) (h : 1 ≤ l.length) : (nexts l).length = l.length := by
  unfold nexts
  rw [List.length_append, List.length_drop, List.length_take]
  omega
theorem wno_eq (l : List Nat) (h1 : 1 ≤ l.length) (hl : l.length ≤ 1000) : f_with_next_ones [LN l] = .ok (.fr 0 (ppE (l.zip (nexts l)))) := by
  unfold f_with_next_ones
  rw [den_eq]
  have lt : (TN l).length = l.length := by simp
  have u1 := sl_of (P := TN l) (a := varD 0) (e := cD (.int 1)) (one := 1) (ρ := [.im (LN l)]) rfl rfl (by omega)
  have u2 := sl_to (P := TN l) (a := varD 0) (e := cD (.int 1)) (one := 1) (ρ := [.im (LN l)]) rfl rfl (by omega)
  have lT : ((TN l).take 1).length ≤ 1000 := by rw [List.length_take]; omega
  have lD : ((TN l).drop 1).length ≤ 1000 := by rw [List.length_drop]; omega
  have u3 := addD_ok u1 u2 (e_datf0 _) (e_datf0 _) (kids_fr0 _) (kids_fr0 _) (Nat.le_trans (Nat.add_le_add lD lT) (by decide))
  have e3 : (TN l).drop 1 ++ (TN l).take 1 = TN (nexts l) := by
    simp only [TN, nexts, List.map_append, List.map_drop, List.map_take]
  have u3' := u3.trans (congrArg (fun z : List PD => Out.ok (R.fr 0 z)) e3)
  have u4 := lzip_ok (a := varD 0) (r1 := .im (LN l)) (ds := TN l) rfl u3' rfl (kidsS_fr0 _) (by simp [nexts_len l h1]) (by omega)
  rw [zipL_TN] at u4
  show fin (retD _ [.im (LN l)]) = _
  unfold retD
  rw [u4]
  rfl
theorem nexts_at (l : List Nat) {k : Nat} (hk : k < l.length) : (nexts l).getD (prev l.length k) 0 = l.getD k 0 := by
  rw [show nexts l = l.drop 1 ++ l.take 1 from rfl]
  by_cases c : l.length = 1
  · obtain ⟨x, rfl⟩ := List.length_eq_one_iff.mp c
    have : k = 0 := by simpa using hk
    subst this
    rfl
  · rw [told_at l 1 _ (by omega) (prev_lt hk)]
    congr 1
    unfold prev
    split <;> split <;> omega
/-! #### maths: turned08 -/
abbrev IT (l : List Nat) : List Int := l.map fun (k : Nat) => (k : Int)
theorem LN_IT (l : List Nat) : LN l = L1 (IT l) := by simp [L1, IT]
theorem IT_nodup {l : List Nat} (h : l.Nodup) : (IT l).Nodup := by
  rw [List.Nodup, List.pairwise_map]
  exact h.imp fun hab e => hab (by omega)
theorem ring_ok {ps : List (Nat × Nat)} {n : Nat} {l : List Nat} (h2 : 2 ≤ l.length) (hl : l.length ≤ 8) (nd : l.Nodup) (hn : ∀ v ∈ l, v < n) (hp : ∀ p ∈ l.zip (nexts l), p ∈ ps) (hps : ps.length ≤ 1000) : f_is_ring [.list (ppE ps), .int n, LN l] = .ok (.im (.bool true)) := by
  have e1 := is_list_below_eq (IT l) n (by simp; omega)
  have e2 : inL n (IT l) = true := inL_of fun v hv => by
    obtain ⟨k, hk, rfl⟩ := List.mem_map.mp hv
    have := hn k hk
    omega
  have e3 := wno_eq l (by omega) (by omega)
  have e4 := ddL_nodup _ (IT_nodup nd)
  have l0 : (IT l).length = l.length := by simp
  have c1 : ¬ ((IT l).length : Int) < 2 := by omega
  have zl : (l.zip (nexts l)).length ≤ 8 := by rw [List.length_zip]; omega
  have l1 : (IT l).length ≤ 4000 := by omega
  rw [LN_IT] at e3 ⊢
  clear l0
  generalize IT l = T at *
  have c2 := lcD_im (s := itJ (callD f_with_next_ones (consA (varD 2) nilA))) (vs := [3]) (k := .nm 3) (e := binR inF (varD 3) (varD 0)) (ρ := [.im (.list (ppE ps)), .im (.int n), .im (L1 T), .no]) (l.zip (nexts l)) PP (fun _ => .bool true) (by simp only [L1] at e3; simp [e3]) (by omega) (fun p hp' => ⟨_, rfl, by
    have := inF_pp p ps
    have hm : decide (p ∈ ps) = true := decide_eq_true (hp p hp')
    simp only [hm] at this
    simp [this]⟩)
  have c3 : (@List.map (Nat × Nat) PD (fun _ => PyData.bool true) (l.zip (nexts l))) = ((l.zip (nexts l)).map fun _ => true).map PyData.bool := by rw [List.map_map]; rfl
  rw [c3] at c2
  have c4 : (((l.zip (nexts l)).map fun _ => true).all fun b => b) = true := by
    rw [List.all_map]
    exact List.all_eq_true.mpr fun _ _ => rfl
  generalize ((l.zip (nexts l)).map fun _ => true) = bs at c2 c4
  simp only [L1] at e1 c2
  unfold f_is_ring
  rw [den_eq]
  simp [d_is_ring, e1, e2, c1, e4, c2, l1, neF_int]
  intro h
  exact absurd (List.all_eq_true.mp c4 false h) (by decide)

theorem getDT {D : List (List Int)} {k : Nat} (h : k < D.length) : atI (D.map fun ns => L1 ns) (k : Int) = some (L1 (D.getD k [])) := by
  rw [atI_map, at_getD h]
  rfl
/-- what stands after k turns: sources a j, goals b j -/
structure Part (held : List (List Int)) (g b : Nat → Nat) (n k : Nat) (D : List (List Int)) : Prop where
  len : D.length = held.length
  on : ∀ j, j < k → D.getD (g j) [] = held.getD (b j) []
  off : ∀ v, (∀ j, j < k → v ≠ g j) → D.getD v [] = held.getD v []
theorem Part.zero (held : List (List Int)) (g b : Nat → Nat) (n : Nat) : Part held g b n 0 held := ⟨rfl, (fun j h => absurd h (by omega)), fun _ _ => rfl⟩
theorem Part.succ {held : List (List Int)} {g b : Nat → Nat} {n k : Nat} {D : List (List Int)} (P : Part held g b n k D) (hg : g k < held.length) (inj : ∀ i j, i < n → j < n → g i = g j → i = j) (hk : k < n) : Part held g b n (k + 1) (D.set (g k) (held.getD (b k) [])) := by
  refine ⟨by rw [List.length_set]; exact P.len, fun j hj => ?_, fun v hv => ?_⟩
  · by_cases c : j = k
    · subst c
      rw [getD_set_eq (by rw [P.len]; exact hg)]
    · rw [getD_set_ne (fun e => c (inj k j hk (by omega) e).symm)]
      exact P.on j (by omega)
  · rw [getD_set_ne (fun e => hv k (by omega) e.symm)]
    exact P.off v fun j hj => hv j (by omega)
theorem turned_eq {rows held : List (List Int)} {m : Nat} {l : List Nat} (W : WfT rows m) (hl : held.length = rows.length) (S : WfS m held) (h2 : 2 ≤ l.length) (nd : l.Nodup) (hn : ∀ v ∈ l, v < rows.length)
    (hp : ∀ k, k < l.length → envyB rows held (l.getD (prev l.length k) 0) (l.getD k 0) = true) : ∃ D, f_turned [LL rows, LL held, LN l] = .ok (.fr 1 (T2 D)) ∧ Turn held l D := by
  have n8 := W.h8
  have ll : l.length ≤ rows.length := by
    have : l ⊆ List.range rows.length := fun x hx => List.mem_range.mpr (hn x hx)
    simpa using List.Nodup.length_le_of_subset nd this
  have e1 := envies_eq W hl S
  have nl := nexts_len l (by omega)
  have zl : (l.zip (nexts l)).length = l.length := by rw [List.length_zip]; omega
  have za : ∀ (i : Nat) (h : i < (l.zip (nexts l)).length), (l.zip (nexts l))[i] = (l.getD i 0, (nexts l).getD i 0) := fun i h => by
    rw [gd (by omega), gd (by omega)]
    simp
  have inps : ∀ p ∈ l.zip (nexts l), p ∈ pairsTo (envyB rows held) rows.length rows.length := fun p hpp => by
    obtain ⟨i, hi, rfl⟩ := List.mem_iff_getElem.mp hpp
    obtain ⟨k, hk, ek⟩ := prev_surj (show i < l.length by omega)
    rw [za i hi, ← ek, nexts_at l hk]
    exact pairs_mem (hn _ (gd_mem (prev_lt hk))) (hn _ (gd_mem hk)) (hp k hk)
  have pl : (pairsTo (envyB rows held) rows.length rows.length).length ≤ 1000 := by
    have := pairsTo_len (envyB rows held) rows.length rows.length
    have := sq8 n8 n8
    omega
  have e2 := ring_ok (n := rows.length) h2 (by omega) nd hn inps pl
  have e3 := wno_eq l (by omega) (by omega)
  generalize pairsTo (envyB rows held) rows.length rows.length = ps at *
  have cp := lcFD_all (n := 0) (s := itJ (varD 1)) (vs := [7]) (k := .nm 7) (e := listD (consA (varD 7) nilA)) (ρ := [.im (LL rows), .im (LL held), .im (LN l), .ow 0 (ppE ps), .no, .no, .no, .no]) held (fun r => L1 r) (fun r => T1 r) (by simp) (by omega) (fun x hx => ⟨_, rfl, by simp⟩)
  have c2 : (@List.map (List Int) (Ty 1) (fun r => T1 r) held) = T2 held := rfl
  rw [c2] at cp
  have inj : ∀ i j, i < l.length → j < l.length → l.getD i 0 = l.getD j 0 → i = j := fun i j hi hj h => gd_inj nd hi hj h
  have key := for_tp (s := itD (callD f_with_next_ones (consA (varD 2) nilA))) (j1 := 5) (j2 := 6) (body := setD 4 (ownQ 4) (varD 5) (listD (consA (ixD (varD 1) (varD 6)) nilA))) (ρ := [.im (LL rows), .im (LL held), .im (LN l), .ow 0 (ppE ps), .ow 1 (T2 held), .no, .no, .no])
    (fun k ρ => ∃ D x y, ρ = [.im (LL rows), .im (LL held), .im (LN l), .ow 0 (ppE ps), .ow 1 (T2 D), x, y, .no] ∧ Part held (fun j => l.getD j 0) (fun j => (nexts l).getD j 0) l.length k D)
    (l.zip (nexts l)) (fun p => .int (p.1 : Nat)) (fun p => .int (p.2 : Nat)) (by simp [e3]) ⟨held, .no, .no, rfl, Part.zero _ _ _ _⟩ (by
    rintro k hk ρ ⟨D, x, y, rfl, P⟩
    have hk' : k < l.length := by omega
    rw [za k hk]
    have g1 : l.getD k 0 < held.length := by rw [hl]; exact hn _ (gd_mem hk')
    have g2 : (nexts l).getD k 0 < held.length := by
      obtain ⟨k', hk2, ek⟩ := prev_surj hk'
      rw [← ek, nexts_at l hk2, hl]
      exact hn _ (gd_mem hk2)
    have P' := P.succ g1 inj hk'
    show Stp _ (setD 4 (ownQ 4) (varD 5) (listD (consA (ixD (varD 1) (varD 6)) nilA)) [.im (LL rows), .im (LL held), .im (LN l), .ow 0 (ppE ps), .ow 1 (T2 D), .im (.int (l.getD k 0 : Nat)), .im (.int ((nexts l).getD k 0 : Nat)), .no])
    generalize l.getD k 0 = a at *
    generalize (nexts l).getD k 0 = b at *
    have r1 := getDT g2
    have v : listD (consA (ixD (varD 1) (varD 6)) nilA) [.im (LL rows), .im (LL held), .im (LN l), .ow 0 (ppE ps), .ow 1 (T2 D), .im (.int (a : Nat)), .im (.int (b : Nat)), .no] = .ok (.fr 0 (T1 (held.getD b []))) := by
      simp only [L1] at r1
      simp [-List.getD_eq_getElem?_getD, r1]
    have st := set_1 (i := 4) (ρ := [.im (LL rows), .im (LL held), .im (LN l), .ow 0 (ppE ps), .ow 1 (T2 D), .im (.int (a : Nat)), .im (.int (b : Nat)), .no]) (A := T2 D) (k := a) (ix := varD 5) rfl rfl (by simp [P.len]; exact g1) v
    have s6 : (T2 D).set a (T1 (held.getD b [])) = T2 (D.set a (held.getD b [])) := by simp only [T2, T1, List.map_set]
    rw [s6] at st
    rw [st]
    exact stp_nx ⟨_, _, _, rfl, P'⟩)
  obtain ⟨ρ', e5, D, x, y, rfl, P⟩ := key
  rw [zl] at P
  refine ⟨D, ?_, ⟨P.len, fun k hk => ?_, fun v hv => ?_⟩⟩
  · have a1 : asgD 3 (callD f_envies (consA (varD 0) (consA (varD 1) nilA))) [.im (LL rows), .im (LL held), .im (LN l), .no, .no, .no, .no, .no] = .nx [.im (LL rows), .im (LL held), .im (LN l), .ow 0 (ppE ps), .no, .no, .no, .no] := by
      simp only [LL, L1] at e1
      simp [e1]
    have t1 : notT (tstD (callD f_is_ring (consA (varD 3) (consA (cbD lenF (consA (varD 0) nilA)) (consA (varD 2) nilA))))) [.im (LL rows), .im (LL held), .im (LN l), .ow 0 (ppE ps), .no, .no, .no, .no] = .ok false := by
      simp only [ppE, LN, TN] at e2
      simp [e2]
    have a2 : asgD 4 (lcFD 0 (itJ (varD 1)) [7] (.nm 7) yesT (listD (consA (varD 7) nilA))) [.im (LL rows), .im (LL held), .im (LN l), .ow 0 (ppE ps), .no, .no, .no, .no] = .nx [.im (LL rows), .im (LL held), .im (LN l), .ow 0 (ppE ps), .ow 1 (T2 held), .no, .no, .no] := by
      unfold asgD
      rw [cp]
      rfl
    unfold f_turned
    rw [den_eq]
    show fin (seqD (asgD 3 _) (seqD (ifD _ _ _) (seqD (asgD 4 _) (seqD (forD _ _ _) (retVD 4)))) [.im (LL rows), .im (LL held), .im (LN l), .no, .no, .no, .no, .no]) = _
    rw [seq_of a1, seq_iff t1, seq_nx, seq_of a2, seq_of e5]
    simp
  · have := P.on (prev l.length k) (prev_lt hk)
    rw [nexts_at l hk] at this
    exact this
  · exact P.off v fun j hj e => hv (e ▸ gd_mem hj)
/-! #### maths: count08 -/
def sig (way : List Nat) (v : Nat) : Nat := if v ∈ way then (nexts way).getD (way.idxOf v) 0 else v
theorem nexts_perm (l : List Nat) : (nexts l).Perm l := by
  unfold nexts
  exact List.perm_append_comm.trans (List.Perm.of_eq (List.take_append_drop 1 l))
theorem idx_gd {l : List Nat} {v : Nat} (h : v ∈ l) : l.idxOf v < l.length ∧ l.getD (l.idxOf v) 0 = v := by
  have h1 : l.idxOf v < l.length := List.idxOf_lt_length_of_mem h
  exact ⟨h1, by rw [gd h1]; exact List.getElem_idxOf h1⟩
theorem sig_in {way : List Nat} (h1 : 1 ≤ way.length) {v : Nat} (h : v ∈ way) : sig way v ∈ way := by
  unfold sig
  rw [if_pos h]
  exact (nexts_perm way).mem_iff.mp (gd_mem (by rw [nexts_len way h1]; exact (idx_gd h).1))
theorem sig_perm {way : List Nat} {n : Nat} (h1 : 1 ≤ way.length) (nd : way.Nodup) (hw : ∀ v ∈ way, v < n) : ((List.range n).map (sig way)).Perm (List.range n) := by
  have nl := nexts_len way h1
  have nn : (nexts way).Nodup := (nexts_perm way).nodup_iff.mpr nd
  have inj : ∀ a b, sig way a = sig way b → a = b := fun a b h => by
    by_cases ca : a ∈ way
    · by_cases cb : b ∈ way
      · unfold sig at h
        rw [if_pos ca, if_pos cb] at h
        have := gd_inj nn (by rw [nl]; exact (idx_gd ca).1) (by rw [nl]; exact (idx_gd cb).1) h
        rw [← (idx_gd ca).2, this, (idx_gd cb).2]
      · have h2 := sig_in h1 ca
        rw [h] at h2
        unfold sig at h2
        rw [if_neg cb] at h2
        exact absurd h2 cb
    · by_cases cb : b ∈ way
      · have h2 := sig_in h1 cb
        rw [← h] at h2
        unfold sig at h2
        rw [if_neg ca] at h2
        exact absurd h2 ca
      · unfold sig at h
        rw [if_neg ca, if_neg cb] at h
        exact h
  have ndm : ((List.range n).map (sig way)).Nodup := by
    rw [List.Nodup, List.pairwise_map]
    exact List.nodup_range.imp fun hab e => hab (inj _ _ e)
  refine (List.perm_ext_iff_of_nodup ndm List.nodup_range).mpr fun a => ⟨fun h => ?_, fun h => ?_⟩
  · obtain ⟨v, hv, rfl⟩ := List.mem_map.mp h
    by_cases c : v ∈ way
    · exact List.mem_range.mpr (hw _ (sig_in h1 c))
    · unfold sig
      rw [if_neg c]
      exact hv
  · by_cases c : a ∈ way
    · have ha : a ∈ nexts way := (nexts_perm way).mem_iff.mpr c
      obtain ⟨j, hj, e⟩ := List.mem_iff_getElem.mp ha
      have hj' : j < way.length := by omega
      have hm : way.getD j 0 ∈ way := gd_mem hj'
      refine List.mem_map.mpr ⟨way.getD j 0, List.mem_range.mpr (hw _ hm), ?_⟩
      unfold sig
      rw [if_pos hm, gd_inj nd (idx_gd hm).1 hj' (idx_gd hm).2, gd hj, e]
    · exact List.mem_map.mpr ⟨a, h, by unfold sig; rw [if_neg c]⟩
theorem self_map (X : List (List Int)) : (List.range X.length).map (fun v => X.getD v []) = X := by
  apply List.ext_getElem
  · simp
  · intro i h1 h2
    simp [List.getD_eq_getElem?_getD, h2]
theorem Turn.at_sig {held D : List (List Int)} {way : List Nat} (T : Turn held way D) (nd : way.Nodup) (v : Nat) : D.getD v [] = held.getD (sig way v) [] := by
  by_cases c : v ∈ way
  · obtain ⟨k, hk, e⟩ := mem_gd c
    have i := gd_inj nd (idx_gd c).1 (prev_lt hk) (by rw [(idx_gd c).2]; exact e)
    unfold sig
    rw [if_pos c, i, nexts_at way hk, ← T.on k hk, ← e]
  · unfold sig
    rw [if_neg c, T.off v c]
theorem Turn.perm {held D : List (List Int)} {way : List Nat} (T : Turn held way D) (h1 : 1 ≤ way.length) (nd : way.Nodup) (hw : ∀ v ∈ way, v < held.length) : D.Perm held := by
  have e1 : D = ((List.range held.length).map (sig way)).map fun v => held.getD v [] := by
    rw [List.map_map, ← T.len]
    conv => lhs; rw [← self_map D]
    exact List.map_congr_left fun v _ => T.at_sig nd v
  rw [e1]
  refine ((sig_perm h1 nd hw).map _).trans (List.Perm.of_eq (self_map held))
theorem WfS.perm {m : Nat} {A B : List (List Int)} (S : WfS m A) (P : B.Perm A) : WfS m B :=
  ⟨fun s hs => S.num s (P.mem_iff.mp hs), fun s hs => S.up s (P.mem_iff.mp hs), (P.flatten).nodup_iff.mpr S.nd⟩
/-! ### how many envy -/
theorem countP_lt {α : Type} {p q : α → Bool} : ∀ {l : List α}, (∀ x ∈ l, p x = true → q x = true) → (∃ x ∈ l, q x = true ∧ p x = false) → l.countP p < l.countP q
  | [], _, h => by obtain ⟨x, hx, _⟩ := h; cases hx
  | a :: l, h1, h2 => by
    have le : l.countP p ≤ l.countP q := List.countP_mono_left fun x hx => h1 x (List.mem_cons_of_mem _ hx)
    rw [List.countP_cons, List.countP_cons]
    obtain ⟨x, hx, hq, hp⟩ := h2
    rcases List.mem_cons.mp hx with rfl | hx
    · rw [hq, hp]
      simp
      omega
    · have := countP_lt (l := l) (fun x hx => h1 x (List.mem_cons_of_mem _ hx)) ⟨x, hx, hq, hp⟩
      by_cases c : p a = true
      · rw [c, h1 a List.mem_cons_self c]
        omega
      · simp only [Bool.not_eq_true] at c
        rw [c]
        simp
        split <;> omega
theorem sum_lt {α : Type} {f g : α → Nat} : ∀ {l : List α}, (∀ x ∈ l, f x ≤ g x) → (∃ x ∈ l, f x < g x) → (l.map f).sum < (l.map g).sum
  | [], _, h => by obtain ⟨x, hx, _⟩ := h; cases hx
  | a :: l, h1, h2 => by
    have le : ∀ (l : List α), (∀ x ∈ l, f x ≤ g x) → (l.map f).sum ≤ (l.map g).sum := fun l => by
      induction l with
      | nil => intro _; exact Nat.le_refl _
      | cons b l ih =>
        intro h
        have := h b List.mem_cons_self
        have := ih fun x hx => h x (List.mem_cons_of_mem _ hx)
        simp only [List.map_cons, List.sum_cons]
        omega
    have l1 := le l fun x hx => h1 x (List.mem_cons_of_mem _ hx)
    have a1 := h1 a List.mem_cons_self
    simp only [List.map_cons, List.sum_cons]
    obtain ⟨x, hx, hlt⟩ := h2
    rcases List.mem_cons.mp hx with rfl | hx
    · omega
    · have := sum_lt (l := l) (fun x hx => h1 x (List.mem_cons_of_mem _ hx)) ⟨x, hx, hlt⟩
      omega
def cnt (rows X : List (List Int)) (i : Nat) : Nat := X.countP fun s => decide (tot (rows.getD i []) (X.getD i []) < tot (rows.getD i []) s)
theorem pairs_cnt (rows X : List (List Int)) (n : Nat) : (pairsTo (envyB rows X) X.length n).length = ((List.range n).map (cnt rows X)).sum := by
  unfold pairsTo
  rw [List.length_flatMap]
  congr 1
  refine List.map_congr_left fun i _ => ?_
  unfold rowPairs cnt
  rw [List.length_map, ← List.countP_eq_length_filter]
  conv => rhs; rw [← self_map X]
  rw [List.countP_map, self_map]
  rfl
theorem fewer {rows held D : List (List Int)} {way : List Nat} (T : Turn held way D) (h1 : 1 ≤ way.length) (nd : way.Nodup) (hw : ∀ v ∈ way, v < held.length)
    (hp : ∀ k, k < way.length → envyB rows held (way.getD (prev way.length k) 0) (way.getD k 0) = true) : (pairsTo (envyB rows D) held.length held.length).length < (pairsTo (envyB rows held) held.length held.length).length := by
  have P := T.perm h1 nd hw
  have e1 := pairs_cnt rows D held.length
  rw [T.len] at e1
  rw [e1, pairs_cnt rows held]
  have up : ∀ v, tot (rows.getD v []) (held.getD v []) ≤ tot (rows.getD v []) (D.getD v []) := fun v => by
    by_cases c : v ∈ way
    · obtain ⟨k, hk, e⟩ := mem_gd c
      have := hp k hk
      rw [← e] at this
      have h2 := T.on k hk
      rw [← e] at h2
      rw [h2]
      simp only [envyB, decide_eq_true_eq] at this
      omega
    · rw [T.off v c]
      exact Int.le_refl _
  refine sum_lt (fun i _ => ?_) ⟨way.getD (prev way.length 0) 0, List.mem_range.mpr (hw _ (gd_mem (prev_lt h1))), ?_⟩
  · unfold cnt
    rw [P.countP_eq]
    refine List.countP_mono_left fun s _ h => ?_
    have := up i
    simp only [decide_eq_true_eq] at h ⊢
    omega
  · have hk := hp 0 h1
    have h2 := T.on 0 h1
    have hv : way.getD (prev way.length 0) 0 < D.length := by rw [T.len]; exact hw _ (gd_mem (prev_lt h1))
    generalize way.getD (prev way.length 0) 0 = v at *
    generalize way.getD 0 0 = b at *
    simp only [envyB, decide_eq_true_eq] at hk
    unfold cnt
    rw [P.countP_eq]
    refine countP_lt (fun s _ h => ?_) ⟨D.getD v [], P.mem_iff.mp (getD_mem hv), ?_, ?_⟩
    · have := up v
      simp only [decide_eq_true_eq] at h ⊢
      omega
    · rw [h2]
      simpa using hk
    · simp
/-! #### maths: bestp -/
/-- of things in a row, one that is worth most: the first such -/
def best (row things : List Int) : Int := things.foldl (fun b t => if row.getD b.toNat 0 < row.getD t.toNat 0 then t else b) (things.headD 0)
theorem best_ok (row things : List Int) (h : things ≠ []) : best row things ∈ things ∧ (∀ t ∈ things, row.getD t.toNat 0 ≤ row.getD (best row things).toNat 0) := by
  have key : ∀ (l : List Int) (b : Int), b ∈ things → (∀ t ∈ l, t ∈ things) →
      (l.foldl (fun b t => if row.getD b.toNat 0 < row.getD t.toNat 0 then t else b) b) ∈ things ∧ row.getD b.toNat 0 ≤ row.getD (l.foldl (fun b t => if row.getD b.toNat 0 < row.getD t.toNat 0 then t else b) b).toNat 0 ∧ ∀ t ∈ l, row.getD t.toNat 0 ≤ row.getD (l.foldl (fun b t => if row.getD b.toNat 0 < row.getD t.toNat 0 then t else b) b).toNat 0 := by
    intro l
    induction l with
    | nil => intro b hb _; exact ⟨hb, Int.le_refl _, (fun _ h => nomatch h)⟩
    | cons a l ih =>
      intro b hb hl
      rw [List.foldl_cons]
      split
      · rename_i c
        obtain ⟨i1, i2, i3⟩ := ih a (hl a List.mem_cons_self) fun t ht => hl t (List.mem_cons_of_mem _ ht)
        refine ⟨i1, by omega, fun t ht => ?_⟩
        rcases List.mem_cons.mp ht with rfl | ht
        · exact i2
        · exact i3 t ht
      · rename_i c
        obtain ⟨i1, i2, i3⟩ := ih b hb fun t ht => hl t (List.mem_cons_of_mem _ ht)
        refine ⟨i1, i2, fun t ht => ?_⟩
        rcases List.mem_cons.mp ht with rfl | ht
        · omega
        · exact i3 t ht
  obtain ⟨x0, xs, e⟩ : ∃ x0 xs, things = x0 :: xs := by
    cases things with
    | nil => exact absurd rfl h
    | cons a b => exact ⟨a, b, rfl⟩
  have hx0 : x0 ∈ things := by rw [e]; exact List.mem_cons_self
  have hd : things.headD 0 = x0 := by rw [e]; rfl
  have k0 := key things x0 hx0 fun _ h => h
  exact ⟨by unfold best; rw [hd]; exact k0.1, by unfold best; rw [hd]; exact k0.2.2⟩
/-- without one thing -/
theorem tot_out (row : List Int) : ∀ (l : List Int) (x : Int), l.Nodup → x ∈ l → tot row (l.filter fun t => !decide (t = x)) = tot row l - row.getD x.toNat 0
  | [], x, _, h => nomatch h
  | a :: l, x, hn, hx => by
    have hn' := List.nodup_cons.mp hn
    by_cases c : a = x
    · subst c
      have : (l.filter fun t => !decide (t = a)) = l := by
        rw [List.filter_eq_self]
        intro b hb
        have : ¬b = a := fun e => hn'.1 (e ▸ hb)
        simp [this]
      simp only [List.filter_cons, decide_true, Bool.not_true, Bool.false_eq_true, if_false, this]
      simp only [tot, List.map_cons, List.sum_cons]
      omega
    · have hx' : x ∈ l := by
        rcases List.mem_cons.mp hx with h | h
        · exact absurd h.symm c
        · exact h
      have ih := tot_out row l x hn'.2 hx'
      simp only [List.filter_cons, c, decide_false, Bool.not_false, if_true]
      simp only [tot, List.map_cons, List.sum_cons] at ih ⊢
      omega
theorem tot_nonneg (row l : List Int) (h : ∀ v ∈ row, 0 ≤ v) : 0 ≤ tot row l := by
  unfold tot
  induction l with
  | nil => simp
  | cons a l ih =>
    simp only [List.map_cons, List.sum_cons]
    have : 0 ≤ row.getD a.toNat 0 := by
      rw [List.getD_eq_getElem?_getD]
      cases e : row[a.toNat]? with
      | none => simp
      | some v => exact h v (List.mem_of_getElem? e)
    omega
theorem env_ne {rows shares : List (List Int)} {m : Nat} (W : WfT rows m) {i j : Nat} (p1 : i < rows.length) (p3 : envyB rows shares i j = true) : shares.getD j [] ≠ [] := by
  intro e
  simp only [envyB, e, decide_eq_true_eq] at p3
  have := tot_nonneg (rows.getD i []) (shares.getD i []) fun v hv => (W.num _ (getD_mem p1) v hv).1
  simp only [tot, List.map_nil, List.sum_nil] at p3 this
  omega
/-! #### maths: bornep -/
/-- does the one bear the other? -/
def bearB (rows shares : List (List Int)) (p : Nat × Nat) : Bool :=
  !decide (tot (rows.getD p.1 []) (shares.getD p.1 []) < tot (rows.getD p.1 []) (shares.getD p.2 []) - (rows.getD p.1 []).getD (best (rows.getD p.1 []) (shares.getD p.2 [])).toNat 0)
def borneB (rows shares : List (List Int)) : Bool := (pairsTo (envyB rows shares) rows.length rows.length).all (bearB rows shares)
/-! #### maths: restring -/
/-- with a ring among the heirs there is a rest -/
theorem rest_of_ring {e : Nat → Nat → Bool} {n : Nat} (w : List Nat) (h0 : 0 < w.length) (hw : ∀ x ∈ w, x < n) (he : ∀ x ∈ w, ∃ y ∈ w, e y x = true) : restL e n ≠ [] := by
  intro hr
  have F := (front_ok e n).1
  have fl := front_len e n
  have hf := (restL_nil e n).mp hr
  have r0 : restOf e n = [] := List.length_eq_zero_iff.mp (by omega)
  rw [r0] at F
  have hp : (frontOf e n).Perm (List.range n) := by simpa using F.perm
  -- by the place in front: nobody of w stands first
  have key : ∀ (p : Nat) (hp : p < (frontOf e n).length), (frontOf e n)[p] ∉ w := by
    intro p
    induction p using Nat.strongRecOn with
    | _ p ih =>
      intro hp' hm
      obtain ⟨y, hy, hey⟩ := he _ hm
      obtain ⟨q, hq, hlt, hqy⟩ := F.ord p hp' y (hw y hy) hey
      exact ih q hlt hq (by rw [hqy]; exact hy)
  have hx : w[0] ∈ w := List.getElem_mem h0
  have hm : w[0] ∈ frontOf e n := hp.mem_iff.mpr (List.mem_range.mpr (hw _ hx))
  obtain ⟨p, hp', hpe⟩ := List.mem_iff_getElem.mp hm
  exact key p hp' (by rw [hpe]; exact hx)
/-! #### maths: inints -/
theorem inF_ints (t : Int) (xs : List Int) : inF (.int t) (.list (xs.map PyData.int)) = some (.bool (decide (t ∈ xs))) := by
  unfold inF
  have h : shp (.list (xs.map PyData.int)) = true := shp_L1 xs
  simp only [shp_int, h, Bool.and_self, if_true]
  congr 2
  rw [List.any_map]
  induction xs with
  | nil => simp
  | cons q qs ih =>
    simp only [List.any_cons, fcomp] at ih ⊢
    rw [ih (shp_L1 qs), eqv_int]
    by_cases h1 : q = t <;> by_cases h2 : t ∈ qs <;> simp [h1, h2]
    intro h
    exact h1 h.symm
/-! #### maths: path10 -/
/-! the ways of turning rings until there is none -/
theorem RingP.prev {e : Nat → Nat → Bool} {n : Nat} {r : List Nat} (R : RingP e n r) : ∀ k, k < r.length → e (r.getD (prev r.length k) 0) (r.getD k 0) = true := fun k hk => by
  have two := R.two
  rw [gd hk, gd (prev_lt hk)]
  cases k with
  | zero => exact R.la hk
  | succ j => exact R.nx j hk
inductive Path (rows : List (List Int)) : List (List Int) → List (List Nat) → List (List Int) → Prop
  | done {held : List (List Int)} : restL (envyB rows held) rows.length = [] → f_ring [LL rows, LL held] = .ok (.im .none) → Path rows held [] held
  | turn {held D E : List (List Int)} {r : List Nat} {rs : List (List Nat)} : f_ring [LL rows, LL held] = .ok (.fr 0 (TN r)) → RingP (envyB rows held) rows.length r → f_turned [LL rows, LL held, LN r] = .ok (.fr 1 (T2 D)) → Turn held r D → Path rows D rs E → Path rows held (r :: rs) E
theorem path_ex {rows : List (List Int)} {m : Nat} (W : WfT rows m) : ∀ (c : Nat) (held : List (List Int)), held.length = rows.length → WfS m held → (pairsTo (envyB rows held) held.length held.length).length ≤ c → ∃ rs E, Path rows held rs E ∧ rs.length ≤ c
  | c, held, hl, S, hc => by
    obtain ⟨r0, r1⟩ := ring_eq W hl S
    by_cases q : restL (envyB rows held) rows.length = []
    · exact ⟨[], held, .done q (r0 q), Nat.zero_le _⟩
    · obtain ⟨r, e1, R⟩ := r1 q
      have two := R.two
      obtain ⟨D, e2, T⟩ := turned_eq W hl S R.two R.nd R.lt R.prev
      have hw : ∀ v ∈ r, v < held.length := fun v hv => by rw [hl]; exact R.lt v hv
      have P := T.perm (by omega) R.nd hw
      have F := fewer T (by omega) R.nd hw R.prev
      rw [← T.len] at F
      cases c with
      | zero => rw [T.len] at F; omega
      | succ c =>
        rw [T.len] at F
        obtain ⟨rs, E, p, l⟩ := path_ex W c D (T.len.trans hl) (S.perm P) (by rw [T.len]; omega)
        exact ⟨r :: rs, E, .turn e1 R e2 T p, by simp; omega⟩
theorem Path.perm {rows held E : List (List Int)} {rs : List (List Nat)} (p : Path rows held rs E) (hl : held.length = rows.length) : E.Perm held := by
  induction p with
  | done _ _ => exact List.Perm.refl _
  | turn _ R _ T _ ih =>
    have two := R.two
    have P := T.perm (by omega) R.nd fun v hv => by rw [hl]; exact R.lt v hv
    exact (ih (T.len.trans hl)).trans P
theorem Path.rest {rows held E : List (List Int)} {rs : List (List Nat)} (p : Path rows held rs E) : restL (envyB rows E) rows.length = [] := by
  induction p with
  | done q _ => exact q
  | turn _ _ _ _ _ ih => exact ih
/-- no less -/
theorem Turn.up {rows held D : List (List Int)} {way : List Nat} (T : Turn held way D) (hp : ∀ k, k < way.length → envyB rows held (way.getD (prev way.length k) 0) (way.getD k 0) = true) (v : Nat) : tot (rows.getD v []) (held.getD v []) ≤ tot (rows.getD v []) (D.getD v []) := by
  by_cases c : v ∈ way
  · obtain ⟨k, hk, e⟩ := mem_gd c
    have := hp k hk
    rw [← e] at this
    have h2 := T.on k hk
    rw [← e] at h2
    rw [h2]
    simp only [envyB, decide_eq_true_eq] at this
    omega
  · rw [T.off v c]
    exact Int.le_refl _
theorem Path.up {rows held E : List (List Int)} {rs : List (List Nat)} (p : Path rows held rs E) (v : Nat) : tot (rows.getD v []) (held.getD v []) ≤ tot (rows.getD v []) (E.getD v []) := by
  induction p with
  | done _ _ => exact Int.le_refl _
  | turn _ R _ T _ ih => exact Int.le_trans (T.up R.prev v) ih
/-- each one bears each share -/
def BorneP (rows X : List (List Int)) : Prop := ∀ i j, i < rows.length → j < rows.length → tot (rows.getD i []) (X.getD i []) < tot (rows.getD i []) (X.getD j []) → ∃ t ∈ X.getD j [], tot (rows.getD i []) (X.getD j []) - (rows.getD i []).getD t.toNat 0 ≤ tot (rows.getD i []) (X.getD i [])
theorem borneP_iff {rows X : List (List Int)} {m : Nat} (W : WfT rows m) : borneB rows X = true ↔ BorneP rows X := by
  unfold borneB BorneP
  rw [List.all_eq_true]
  constructor
  · intro h i j hi hj he
    have hb : envyB rows X i j = true := by simpa [envyB] using he
    have := h (i, j) (pairs_mem hi hj hb)
    have ne := env_ne W hi hb
    obtain ⟨d2, d3⟩ := best_ok (rows.getD i []) (X.getD j []) ne
    refine ⟨_, d2, ?_⟩
    simp only [bearB, Bool.not_eq_true', decide_eq_false_iff_not] at this
    omega
  · rintro h ⟨i, j⟩ hp
    obtain ⟨p1, p2, p3⟩ := mem_pairs hp
    simp only at p1 p2 p3
    have ne := env_ne W p1 p3
    obtain ⟨d2, d3⟩ := best_ok (rows.getD i []) (X.getD j []) ne
    simp only [envyB, decide_eq_true_eq] at p3
    obtain ⟨t, ht, hle⟩ := h i j p1 p2 p3
    have := d3 t ht
    simp only [bearB, Bool.not_eq_true', decide_eq_false_iff_not]
    omega
/-- kept by any exchange of shares that is worth no less to anybody -/
theorem borneP_perm {rows X Y : List (List Int)} (hl : X.length = rows.length) (P : Y.Perm X) (up : ∀ v, tot (rows.getD v []) (X.getD v []) ≤ tot (rows.getD v []) (Y.getD v [])) (B : BorneP rows X) : BorneP rows Y := by
  intro i j hi hj he
  have ly : Y.length = X.length := P.length_eq
  have hm : Y.getD j [] ∈ X := P.mem_iff.mp (getD_mem (by omega))
  obtain ⟨k, hk, e⟩ := List.mem_iff_getElem.mp hm
  have e2 : X.getD k [] = Y.getD j [] := by rw [← e]; simp [List.getD_eq_getElem?_getD, hk]
  have u := up i
  obtain ⟨t, ht, hle⟩ := B i k hi (by omega) (by rw [e2]; omega)
  rw [e2] at ht hle
  exact ⟨t, ht, by omega⟩
/-- a thing for one whom nobody envies -/
theorem sort_mem {l : List Int} {x : Int} : x ∈ sortI l ↔ x ∈ l := (sortI_perm l).mem_iff
theorem sum_perm {a b : List Int} (p : a.Perm b) : a.sum = b.sum := by
  induction p with
  | nil => rfl
  | cons x _ ih => simp only [List.sum_cons, ih]
  | swap x y l => simp only [List.sum_cons]; omega
  | trans _ _ h1 h2 => exact h1.trans h2
theorem tot_perm {row a b : List Int} (p : a.Perm b) : tot row a = tot row b := by
  unfold tot
  exact sum_perm (p.map _)
def gave (E : List (List Int)) (a : Nat) (t : Int) : List (List Int) := E.set a (sortI (E.getD a [] ++ [t]))
theorem tot_gave (row : List Int) (l : List Int) (t : Int) : tot row (sortI (l ++ [t])) = tot row l + row.getD t.toNat 0 := by
  rw [tot_perm (sortI_perm _)]
  simp [tot, List.sum_append]
theorem borneP_gave {rows E : List (List Int)} {m a : Nat} {t : Int} (W : WfT rows m) (hl : E.length = rows.length) (ha : a < rows.length) (hu : ∀ h, h < rows.length → envyB rows E h a = false) (B : BorneP rows E) : BorneP rows (gave E a t) := by
  have pos : ∀ i, i < rows.length → 0 ≤ (rows.getD i []).getD t.toNat 0 := fun i hi => by
    rw [List.getD_eq_getElem?_getD]
    cases e : (rows.getD i [])[t.toNat]? with
    | none => simp
    | some v => exact (W.num _ (getD_mem hi) v (List.mem_of_getElem? e)).1
  have at_a : (gave E a t).getD a [] = sortI (E.getD a [] ++ [t]) := getD_set_eq (by omega)
  have at_o : ∀ j, j ≠ a → (gave E a t).getD j [] = E.getD j [] := fun j hj => getD_set_ne (Ne.symm hj)
  intro i j hi hj he
  by_cases cj : j = a
  · subst cj
    by_cases ci : i = j
    · subst ci
      omega
    · rw [at_a, at_o i ci, tot_gave] at *
      have h0 := hu i hi
      simp only [envyB, decide_eq_false_iff_not] at h0
      exact ⟨t, sort_mem.mpr (by simp), by omega⟩
  · rw [at_o j cj] at *
    by_cases ci : i = a
    · subst ci
      rw [at_a, tot_gave] at *
      have := pos i hi
      obtain ⟨x, hx, hle⟩ := B i j hi hj (by omega)
      exact ⟨x, hx, by omega⟩
    · rw [at_o i ci] at *
      exact B i j hi hj he
theorem up_gave {rows E : List (List Int)} {m a : Nat} {t : Int} (W : WfT rows m) (hl : E.length = rows.length) (ha : a < rows.length) (v : Nat) (hv : v < rows.length) : tot (rows.getD v []) (E.getD v []) ≤ tot (rows.getD v []) ((gave E a t).getD v []) := by
  by_cases c : v = a
  · subst c
    rw [show (gave E v t).getD v [] = sortI (E.getD v [] ++ [t]) from getD_set_eq (by omega), tot_gave]
    have : 0 ≤ (rows.getD v []).getD t.toNat 0 := by
      rw [List.getD_eq_getElem?_getD]
      cases e : (rows.getD v [])[t.toNat]? with
      | none => simp
      | some x => exact (W.num _ (getD_mem hv) x (List.mem_of_getElem? e)).1
    omega
  · rw [show (gave E a t).getD v [] = E.getD v [] from getD_set_ne (Ne.symm c)]
    exact Int.le_refl _
/-! #### maths: steps10 -/
theorem aside_eq {rows shares : List (List Int)} {m : Nat} (W : WfT rows m) (hl : shares.length = rows.length) (S : WfS m shares) {t : Int} (ht : 0 ≤ t ∧ t < m) (hn : ∀ s ∈ shares, t ∉ s) :
    f_need_aside [LL rows, LL shares, .int t] = .ok (.im .none) := by
  have a0 := need_shares_eq W hl S
  have h1 := W.h1
  have h8 := W.h8
  have a5 : atI rows 0 = some rows[0] := by rw [atI_nat _ _ (by omega) (by omega)]; simp
  have a2 := W.len _ (List.getElem_mem (show 0 < rows.length from h1))
  have a3 := is_number_below_eq t m
  have lc := lcD_im (s := itJ (varD 1)) (vs := [3]) (k := .nm 3) (e := binR inF (varD 2) (varD 3)) (ρ := [.im (LL rows), .im (LL shares), .im (.int t), .no]) shares (fun r => L1 r) (fun r => .bool (decide (t ∈ r))) (by simp) (by omega) (fun x hx => ⟨_, rfl, by simp [inF_ints]⟩)
  have any : (shares.any fun r => decide (t ∈ r)) = false := List.any_eq_false.mpr fun s hs => by simpa using hn s hs
  unfold f_need_aside
  rw [den_eq]
  simp only [LL, L1] at a0 lc
  simp [d_need_aside, a0, atI_map, a5, a2, a3, ht, lc, any]
def stepD (r : List Nat) : PD := .tuple [.str (Str.ofString "ring"), .tuple (TN r)]
def stL (rs : List (List Nat)) : List PD := rs.map stepD
theorem stL_len (rs : List (List Nat)) : (stL rs).length = rs.length := List.length_map _
theorem stL_snoc (rs : List (List Nat)) (r : List Nat) : stL (rs ++ [r]) = stL rs ++ [stepD r] := List.map_append
def giveD (t : Int) (a : Nat) : PD := .tuple [.str (Str.ofString "give"), .int t, .int (a : Nat)]
def ringR : List (List Nat) → R
  | [] => .im .none
  | r :: _ => .fr 0 (TN r)
def ringE : List (List Nat) → Ent
  | [] => .im .none
  | r :: _ => .ow 0 (TN r)
theorem Path.ring {rows H E : List (List Int)} {rs : List (List Nat)} (p : Path rows H rs E) : f_ring [LL rows, LL H] = .ok (ringR rs) := by
  cases p with
  | done _ h => exact h
  | turn h _ _ _ _ => exact h
theorem unenv_some_of {e : Nat → Nat → Bool} {n : Nat} (h1 : 1 ≤ n) (h : restL e n = []) : ∃ a, unenv e (List.range n) = some a := by
  cases u : unenv e (List.range n) with
  | some a => exact ⟨a, rfl⟩
  | none =>
    have h2 := unenv_none u
    exact absurd h (rest_of_ring (List.range n) (by rw [List.length_range]; exact h1) (fun x hx => List.mem_range.mp hx) h2)
theorem flat_T2 (D : List (List Int)) : R.flat (.fr 1 (T2 D)) = true := by
  rw [e_flf1]
  simp [T2]
theorem ring_flat (rs : List (List Nat)) : R.flat (ringR rs) = true := by
  cases rs with
  | nil => simp [ringR]
  | cons r rs => show R.flat (.fr 0 (TN r)) = true; rw [e_flf0]; exact TN_all r
theorem ring_ent (rs : List (List Nat)) : entOf (ringR rs) = some (ringE rs) := by cases rs <;> rfl
/-- the shares in hand: the ones handed in, or new ones -/
def HeldE (H : List (List Int)) (x : Ent) : Prop := x = .im (LL H) ∨ x = .ow 1 (T2 H)
theorem HeldE.var {H : List (List Int)} {x : Ent} (h : HeldE H x) {i : Nat} {ρ : Z.Env} (hx : ρ[i]? = some x) : ∃ r, varD i ρ = .ok r ∧ r.dat = LL H := by
  rcases h with rfl | rfl
  · exact ⟨.im (LL H), by simp [hx], rfl⟩
  · exact ⟨.ro 1 (T2 H), by simp [hx], dat_T2 H⟩
def StI (rows held : List (List Int)) (rs : List (List Nat)) (E : List (List Int)) (m : Nat) (t : Int) (k : Nat) (ρ : Z.Env) : Prop :=
  ∃ done rest H x, rs = done ++ rest ∧ rest.length = k ∧ Path rows H rest E ∧ H.length = rows.length ∧ WfS m H ∧ HeldE H x ∧ ρ = [.im (LL rows), .im (LL held), .im (.int t), .ow 0 (stL done), x, ringE rest, .no]
theorem st_step {rows held E : List (List Int)} {rs : List (List Nat)} {m : Nat} {t : Int} (W : WfT rows m) (lr : rs.length ≤ 1000) (k : Nat) (ρ : Z.Env) (h : StI rows held rs E m t k ρ) :
    (tstD (binR nNF (varD 5) (cD .none)) ρ = .ok false ∧ StI rows held rs E m t 0 ρ) ∨ (∃ j, k = j + 1 ∧ tstD (binR nNF (varD 5) (cD .none)) ρ = .ok true ∧ Stp (StI rows held rs E m t j) (seqD (appD 3 (ownQ 3) (tupD (consA (cD (.str (Str.ofString "ring"))) (consA (tuplD (consA (varD 5) nilA)) nilA))))
      (seqD (asgD 4 (callD f_turned (consA (varD 0) (consA (varD 4) (consA (varD 5) nilA)))))
      (asgD 5 (callD f_ring (consA (varD 0) (consA (varD 4) nilA))))) ρ)) := by
  obtain ⟨done, rest, H, x, e1, e2, p, hl, S, hx, rfl⟩ := h
  cases rest with
  | nil =>
    subst e2
    exact .inl ⟨by simp [ringE], done, [], H, x, e1, rfl, p, hl, S, hx, rfl⟩
  | cons r rest =>
    refine .inr ⟨rest.length, e2.symm, by simp [ringE], ?_⟩
    have ld : done.length ≤ 1000 := by rw [e1, List.length_append] at lr; omega
    cases p with
    | turn h1 R h2 T p2 =>
      rename_i D
      have two := R.two
      have hw : ∀ v ∈ r, v < H.length := fun v hv => by rw [hl]; exact R.lt v hv
      have q1 : appD 3 (ownQ 3) (tupD (consA (cD (.str (Str.ofString "ring"))) (consA (tuplD (consA (varD 5) nilA)) nilA))) [.im (LL rows), .im (LL held), .im (.int t), .ow 0 (stL done), x, ringE (r :: rest), .no] = .nx [.im (LL rows), .im (LL held), .im (.int t), .ow 0 (stL (done ++ [r])), x, .ow 0 (TN r), .no] := by
        have l2 : (stL done).length ≤ 100000 := by rw [stL_len]; omega
        rw [stL_snoc]
        simp [ringE, l2, stepD]
      obtain ⟨r4, v4, d4⟩ := hx.var (i := 4) (ρ := [.im (LL rows), .im (LL held), .im (.int t), .ow 0 (stL (done ++ [r])), x, .ow 0 (TN r), .no]) rfl
      have q2 : asgD 4 (callD f_turned (consA (varD 0) (consA (varD 4) (consA (varD 5) nilA)))) [.im (LL rows), .im (LL held), .im (.int t), .ow 0 (stL (done ++ [r])), x, .ow 0 (TN r), .no] = .nx [.im (LL rows), .im (LL held), .im (.int t), .ow 0 (stL (done ++ [r])), .ow 1 (T2 D), .ow 0 (TN r), .no] := by
        unfold asgD
        rw [call3 (a := varD 0) (r1 := .im (LL rows)) (r3 := .ro 0 (TN r)) rfl v4 rfl rfl d4 (e_datr0 _) h2 (flat_T2 D)]
        rfl
      have q3 : asgD 5 (callD f_ring (consA (varD 0) (consA (varD 4) nilA))) [.im (LL rows), .im (LL held), .im (.int t), .ow 0 (stL (done ++ [r])), .ow 1 (T2 D), .ow 0 (TN r), .no] = .nx [.im (LL rows), .im (LL held), .im (.int t), .ow 0 (stL (done ++ [r])), .ow 1 (T2 D), ringE rest, .no] := by
        unfold asgD
        rw [call2 (a := varD 0) (r1 := .im (LL rows)) (r2 := .ro 1 (T2 D)) rfl rfl rfl (dat_T2 D) p2.ring (ring_flat rest)]
        show (match entOf (ringR rest) with | some n => SO.nx _ | none => SO.st) = _
        rw [ring_ent]
        rfl
      rw [seq_of q1, seq_of q2, q3]
      exact stp_nx ⟨done ++ [r], rest, D, .ow 1 (T2 D), by rw [e1]; simp, rfl, p2, T.len.trans hl, S.perm (T.perm (by omega) R.nd hw), .inr rfl, rfl⟩
theorem steps_eq {rows held E : List (List Int)} {rs : List (List Nat)} {m : Nat} {t : Int} (W : WfT rows m) (hl : held.length = rows.length) (S : WfS m held) (ht : 0 ≤ t ∧ t < m) (hn : ∀ s ∈ held, t ∉ s) (p : Path rows held rs E) (lr : rs.length ≤ 1000) :
    ∃ a, unenv (envyB rows E) (List.range rows.length) = some a ∧ f_steps [LL rows, LL held, .int t] = .ok (.fr 0 (stL rs ++ [giveD t a])) := by
  obtain ⟨a, ha⟩ := unenv_some_of W.h1 p.rest
  refine ⟨a, ha, ?_⟩
  have n8 := W.h8
  have as := aside_eq W hl S ht hn
  obtain ⟨ρ', w1, done, rest, H, x, e1, e2, p2, hl2, S2, hx, e3⟩ := while_inv (StI rows held rs E m t) (StI rows held rs E m t 0) (st_step W lr) rs.length 1000000 [.im (LL rows), .im (LL held), .im (.int t), .ow 0 ([] : List PD), .im (LL held), ringE rs, .no] (by omega) ⟨[], rs, held, .im (LL held), rfl, rfl, p, hl, S, .inl rfl, rfl⟩
  have er : rest = [] := List.eq_nil_of_length_eq_zero e2
  subst er
  have ed : done = rs := by rw [e1]; simp
  subst ed
  cases p2
  rename_i c1 c2
  unfold f_steps
  rw [den_eq]
  show fin (d_steps [.im (LL rows), .im (LL held), .im (.int t), .no, .no, .no, .no]) = _
  unfold d_steps
  have q1 : exprD (callD f_need_aside (consA (varD 0) (consA (varD 1) (consA (varD 2) nilA)))) [.im (LL rows), .im (LL held), .im (.int t), .no, .no, .no, .no] = .nx [.im (LL rows), .im (LL held), .im (.int t), .no, .no, .no, .no] := by
    unfold exprD
    rw [call3 (a := varD 0) (r1 := .im (LL rows)) (r2 := .im (LL held)) (r3 := .im (.int t)) rfl rfl rfl rfl rfl rfl as rfl]
    rfl
  have q2 : asgD 5 (callD f_ring (consA (varD 0) (consA (varD 4) nilA))) [.im (LL rows), .im (LL held), .im (.int t), .ow 0 ([] : List PD), .im (LL held), .no, .no] = .nx [.im (LL rows), .im (LL held), .im (.int t), .ow 0 ([] : List PD), .im (LL held), ringE done, .no] := by
    unfold asgD
    rw [call2 (a := varD 0) (r1 := .im (LL rows)) (r2 := .im (LL held)) rfl rfl rfl rfl p.ring (ring_flat done)]
    show (match entOf (ringR done) with | some n => SO.nx _ | none => SO.st) = _
    rw [ring_ent]
    rfl
  have ev := envies_eq W hl2 S2
  have un := unenvied_eq (envyB rows E) rows.length (List.range rows.length) (fun x hx => List.mem_range.mp hx) (by simp; omega)
  rw [ha] at un
  obtain ⟨r4, v4, d4⟩ := hx.var (i := 4) (ρ := [.im (LL rows), .im (LL held), .im (.int t), .ow 0 (stL done), x, ringE [], .no]) rfl
  have c1 := call2 (a := varD 0) (r1 := .im (LL rows)) (ρ := [.im (LL rows), .im (LL held), .im (.int t), .ow 0 (stL done), x, ringE [], .no]) rfl v4 rfl d4 ev (by rw [e_flf0]; exact all_pp _)
  have c2 : lrgD (cbD lenF (consA (varD 0) nilA)) [.im (LL rows), .im (LL held), .im (.int t), .ow 0 (stL done), x, ringE [], .no] = .ok (.fr 0 (TN (List.range rows.length))) := by
    have a3 : (-100000 : Int) ≤ (rows.length : Int) ∧ (rows.length : Int) ≤ 100000 := by omega
    simp [lrgD, a3]
  have c3 := call2 c1 c2 (e_datf0 _) (e_datf0 _) un (by simp)
  have q3 : asgD 6 (callD f_unenvied (consA (callD f_envies (consA (varD 0) (consA (varD 4) nilA))) (consA (lrgD (cbD lenF (consA (varD 0) nilA))) nilA))) [.im (LL rows), .im (LL held), .im (.int t), .ow 0 (stL done), x, ringE [], .no] = .nx [.im (LL rows), .im (LL held), .im (.int t), .ow 0 (stL done), x, ringE [], .im (.int (a : Nat))] := by
    unfold asgD
    rw [c3]
    rfl
  have ld : (stL done).length ≤ 100000 := by rw [stL_len]; omega
  have q4 : appD 3 (ownQ 3) (tupD (consA (cD (.str (Str.ofString "give"))) (consA (varD 2) (consA (varD 6) nilA)))) [.im (LL rows), .im (LL held), .im (.int t), .ow 0 (stL done), x, ringE [], .im (.int (a : Nat))] = .nx [.im (LL rows), .im (LL held), .im (.int t), .ow 0 (stL done ++ [giveD t a]), x, ringE [], .im (.int (a : Nat))] := by
    simp [ld, giveD]
  rw [e3] at w1
  have qa : asgD 3 (lstD nilA) [.im (LL rows), .im (LL held), .im (.int t), .no, .no, .no, .no] = .nx [.im (LL rows), .im (LL held), .im (.int t), .ow 0 ([] : List PD), .no, .no, .no] := rfl
  have qb : asgD 4 (varD 1) [.im (LL rows), .im (LL held), .im (.int t), .ow 0 ([] : List PD), .no, .no, .no] = .nx [.im (LL rows), .im (LL held), .im (.int t), .ow 0 ([] : List PD), .im (LL held), .no, .no] := rfl
  refine congrArg fin ((seq_of q1).trans ((seq_of qa).trans ((seq_of qb).trans ((seq_of q2).trans ((seq_of w1).trans ((seq_of q3).trans ((seq_of q4).trans rfl)))))))
/-! awarded -/
theorem stL_get (rs : List (List Nat)) (i : Nat) (h : i < rs.length) : (stL rs)[i]? = some (stepD rs[i]) := by
  unfold stL
  rw [List.getElem?_map, List.getElem?_eq_getElem h]
  rfl
theorem path_drop {rows E : List (List Int)} : ∀ {rs : List (List Nat)} {H : List (List Int)} {r : List Nat}, Path rows H (r :: rs) E → ∃ D, f_turned [LL rows, LL H, LN r] = .ok (.fr 1 (T2 D)) ∧ Path rows D rs E := fun p => by
  cases p with
  | turn _ _ h _ p => exact ⟨_, h, p⟩
theorem at_last (l : List PD) (d : PD) : atI (l ++ [d]) (-1) = some d := by
  unfold atI ixN
  have h1 : ¬(0 : Int) ≤ -1 := by omega
  have h2 : -((l ++ [d]).length : Int) ≤ -1 := by rw [List.length_append, List.length_singleton]; omega
  rw [if_neg h1, if_pos h2]
  have h3 : (-1 + ((l ++ [d]).length : Int)).toNat = l.length := by rw [List.length_append, List.length_singleton]; omega
  simp only [Option.bind_some, h3]
  simp
theorem sort_ok {a : ED} {ρ : Z.Env} {ns : List Int} (h : a ρ = .ok (.fr 0 (T1 ns))) : sortD (consA a nilA) ρ = .ok (.fr 0 (T1 (sortI ns))) := by
  have e : consA a nilA ρ = .ok [.im (.list (T1 ns))] := by
    unfold consA
    rw [h, bind_ok, e_fzf0]
    rfl
  unfold sortD
  rw [e]
  simp
theorem awarded_eq {rows held E : List (List Int)} {rs : List (List Nat)} {m : Nat} {t : Int} (W : WfT rows m) (hl : held.length = rows.length) (S : WfS m held) (ht : 0 ≤ t ∧ t < m) (hn : ∀ s ∈ held, t ∉ s) (p : Path rows held rs E) (lr : rs.length ≤ 1000) :
    ∃ a, unenv (envyB rows E) (List.range rows.length) = some a ∧ f_steps [LL rows, LL held, .int t] = .ok (.fr 0 (stL rs ++ [giveD t a])) ∧ f_awarded [LL rows, LL held, .int t] = .ok (.fr 1 (T2 (gave E a t))) := by
  obtain ⟨a, ha, st⟩ := steps_eq W hl S ht hn p lr
  refine ⟨a, ha, st, ?_⟩
  have n8 := W.h8
  have m40 := W.m40
  have PE := p.perm hl
  have SE := S.perm PE
  have lE : E.length = rows.length := PE.length_eq.trans hl
  have a8 : a < rows.length := List.mem_range.mp (unenv_some ha).1
  unfold f_awarded
  rw [den_eq]
  show fin (d_awarded [.im (LL rows), .im (LL held), .im (.int t), .no, .no, .no, .no, .no, .no]) = _
  unfold d_awarded
  have q1 : asgD 3 (callD f_steps (consA (varD 0) (consA (varD 1) (consA (varD 2) nilA)))) [.im (LL rows), .im (LL held), .im (.int t), .no, .no, .no, .no, .no, .no] = .nx [.im (LL rows), .im (LL held), .im (.int t), .ow 0 (stL rs ++ [giveD t a]), .no, .no, .no, .no, .no] := by
    have c : callD f_steps (consA (varD 0) (consA (varD 1) (consA (varD 2) nilA))) [.im (LL rows), .im (LL held), .im (.int t), .no, .no, .no, .no, .no, .no] = .ok (.fr 0 (stL rs ++ [giveD t a])) := by
      unfold callD
      show (match f_steps [LL rows, LL held, .int t] with | .ok r => _ | .ex c => _ | .st => _) = _
      rw [st]
      rfl
    unfold asgD
    rw [c]
    rfl
  have q2 : asgD 4 (lcFD 0 (itJ (varD 1)) [8] (.nm 8) yesT (listD (consA (varD 8) nilA))) [.im (LL rows), .im (LL held), .im (.int t), .ow 0 (stL rs ++ [giveD t a]), .no, .no, .no, .no, .no] = .nx [.im (LL rows), .im (LL held), .im (.int t), .ow 0 (stL rs ++ [giveD t a]), .ow 1 (T2 held), .no, .no, .no, .no] := by
    have c1 := lcFD_all (n := 0) (s := itJ (varD 1)) (vs := [8]) (k := .nm 8) (e := listD (consA (varD 8) nilA)) (ρ := [.im (LL rows), .im (LL held), .im (.int t), .ow 0 (stL rs ++ [giveD t a]), .no, .no, .no, .no, .no]) held (fun r => L1 r) (fun r => T1 r) (by simp) (by omega) (fun x hx => ⟨_, rfl, by simp⟩)
    unfold asgD
    rw [c1]
    rfl
  rw [seq_of q1, seq_of q2]
  have sl : slD (varD 3) noO (soO (unR negI (cD (.int 1)))) [.im (LL rows), .im (LL held), .im (.int t), .ow 0 (stL rs ++ [giveD t a]), .ow 1 (T2 held), .no, .no, .no, .no] = .ok (.fr 0 (stL rs)) := by
    have c := cut_last (stL rs) (giveD t a)
    simp [c]
  have si : itD (slD (varD 3) noO (soO (unR negI (cD (.int 1))))) [.im (LL rows), .im (LL held), .im (.int t), .ow 0 (stL rs ++ [giveD t a]), .ow 1 (T2 held), .no, .no, .no, .no] = .ok (rs.map fun r => .tuple [.str (Str.ofString "ring"), .tuple (TN r)]) := by
    unfold itD
    rw [sl, bind_ok, e_fzf0]
    rfl
  refine fin_forT (fun i ρ => ∃ H x y, Path rows H (rs.drop i) E ∧ ρ = [.im (LL rows), .im (LL held), .im (.int t), .ow 0 (stL rs ++ [giveD t a]), .ow 1 (T2 H), x, y, .no, .no]) rs (fun _ => .str (Str.ofString "ring")) (fun r => .tuple (TN r)) si ⟨held, .no, .no, p, rfl⟩ ?_ ?_
  · rintro i hi ρ ⟨H, x, y, pH, rfl⟩
    rw [List.drop_eq_getElem_cons hi] at pH
    obtain ⟨D, h2, pD⟩ := path_drop pH
    have q : asgD 4 (callD f_turned (consA (varD 0) (consA (varD 4) (consA (listD (consA (varD 6) nilA)) nilA)))) [.im (LL rows), .im (LL held), .im (.int t), .ow 0 (stL rs ++ [giveD t a]), .ow 1 (T2 H), .im (.str (Str.ofString "ring")), .im (.tuple (TN rs[i])), .no, .no] = .nx [.im (LL rows), .im (LL held), .im (.int t), .ow 0 (stL rs ++ [giveD t a]), .ow 1 (T2 D), .im (.str (Str.ofString "ring")), .im (.tuple (TN rs[i])), .no, .no] := by
      have c3 : listD (consA (varD 6) nilA) [.im (LL rows), .im (LL held), .im (.int t), .ow 0 (stL rs ++ [giveD t a]), .ow 1 (T2 H), .im (.str (Str.ofString "ring")), .im (.tuple (TN rs[i])), .no, .no] = .ok (.fr 0 (TN rs[i])) := by simp
      unfold asgD
      rw [call3 (a := varD 0) (b := varD 4) (r1 := .im (LL rows)) (r2 := .ro 1 (T2 H)) rfl rfl c3 rfl (dat_T2 H) (e_datf0 _) h2 (flat_T2 D)]
      rfl
    show Stp _ (asgD 4 (callD f_turned (consA (varD 0) (consA (varD 4) (consA (listD (consA (varD 6) nilA)) nilA)))) [.im (LL rows), .im (LL held), .im (.int t), .ow 0 (stL rs ++ [giveD t a]), .ow 1 (T2 H), .im (.str (Str.ofString "ring")), .im (.tuple (TN rs[i])), .no, .no])
    rw [q]
    exact stp_nx ⟨D, _, _, pD, rfl⟩
  · rintro ρ ⟨H, x, y, pH, rfl⟩
    rw [List.drop_length] at pH
    cases pH
    have q3 : asgD 7 (ixD (ixD (varD 3) (unR negI (cD (.int 1)))) (cD (.int 2))) [.im (LL rows), .im (LL held), .im (.int t), .ow 0 (stL rs ++ [giveD t a]), .ow 1 (T2 E), x, y, .no, .no] = .nx [.im (LL rows), .im (LL held), .im (.int t), .ow 0 (stL rs ++ [giveD t a]), .ow 1 (T2 E), x, y, .im (.int (a : Nat)), .no] := by
      have c := at_last (stL rs) (giveD t a)
      have c2 : atI [PyData.str (Str.ofString "give"), .int t, .int (a : Nat)] 2 = some (.int (a : Nat)) := rfl
      simp only [giveD] at c ⊢
      simp [c, c2]
    have hE : E.getD a [] ∈ E := getD_mem (by omega)
    have lEa := SE.slen hE
    have c1 : ixD (varD 4) (varD 7) [.im (LL rows), .im (LL held), .im (.int t), .ow 0 (stL rs ++ [giveD t a]), .ow 1 (T2 E), x, y, .im (.int (a : Nat)), .no] = .ok (.ro 0 (T1 (E.getD a []))) := by
      have b := at_getD (l := E) (i := a) (by omega)
      simp [-List.getD_eq_getElem?_getD, T2, atI_map, b]
    have c2 : lstD (consA (varD 2) nilA) [.im (LL rows), .im (LL held), .im (.int t), .ow 0 (stL rs ++ [giveD t a]), .ow 1 (T2 E), x, y, .im (.int (a : Nat)), .no] = .ok (.fr 0 ([.int t] : List PD)) := by simp
    have k0 : (T1 (E.getD a [])).length + ([.int t] : List PD).length ≤ 100000 := by rw [List.length_map]; show _ + 1 ≤ _; omega
    have c3 := addD_ok c1 c2 (e_datr0 _) (e_datf0 _) rfl (kids_fr0 _) k0
    have e4 : T1 (E.getD a []) ++ [PyData.int t] = T1 (E.getD a [] ++ [t]) := by simp
    have c4 : sortD (consA (addD (ixD (varD 4) (varD 7)) (lstD (consA (varD 2) nilA))) nilA) [.im (LL rows), .im (LL held), .im (.int t), .ow 0 (stL rs ++ [giveD t a]), .ow 1 (T2 E), x, y, .im (.int (a : Nat)), .no] = .ok (.fr 0 (T1 (sortI (E.getD a [] ++ [t])))) := by
      exact sort_ok (c3.trans (congrArg (fun z : List PD => Out.ok (R.fr 0 z)) e4))
    have q4 := set_1 (i := 4) (ρ := [.im (LL rows), .im (LL held), .im (.int t), .ow 0 (stL rs ++ [giveD t a]), .ow 1 (T2 E), x, y, .im (.int (a : Nat)), .no]) (A := T2 E) (k := a) rfl (ix := varD 7) rfl (by rw [List.length_map]; omega) c4
    rw [seq_of q3, seq_of q4]
    have e5 : (T2 E).set a (T1 (sortI (E.getD a [] ++ [t]))) = T2 (gave E a t) := by
      unfold gave T2
      rw [List.map_set]
    rw [e5]
    rfl
/-! #### maths: fil15 -/
/-! a comprehension with a test, new lists as its elements -/
theorem lcD_fil2 {s : LD} {vs : List Nat} {k : Tg} {t : TD} {e : ED} {ρ : Z.Env} {α : Type} (xs : List α) (c g : α → PD) (p : α → Bool) (hs : s ρ = .ok (xs.map c)) (hl : xs.length ≤ 100000)
    (h : ∀ x ∈ xs, ∃ ρ1, bindT k (c x) (wipeE ρ vs) = some ρ1 ∧ t ρ1 = .ok (p x) ∧ (p x = true → ∃ r, e ρ1 = .ok r ∧ r.fz = .im (g x))) : lcD s vs k t e ρ = .ok (.fr 0 (@List.map α PD g (xs.filter p))) := by
  unfold lcD
  rw [hs]
  have : lcL k t e (wipeE ρ vs) (xs.map c) = .ok ((xs.filter p).map g) := by
    clear hs hl
    induction xs with
    | nil => rfl
    | cons x xs ih =>
      obtain ⟨ρ1, e1, e2, e3⟩ := h x List.mem_cons_self
      have ih' := ih fun x hx => h x (List.mem_cons_of_mem _ hx)
      simp only [List.map_cons]
      unfold lcL
      rw [e1]
      cases c : p x with
      | true =>
        obtain ⟨r, e4, e5⟩ := e3 c
        simp only [e2, c, noX_ok, bind_ok, if_true, e4, e5, ih', List.filter_cons_of_pos, List.map_cons]
      | false => simp only [e2, c, noX_ok, bind_ok, Bool.false_eq_true, if_false, ih', List.filter_cons, List.map_cons]
  have len : ((xs.filter p).map g).length ≤ 100000 := by
    rw [List.length_map]
    exact Nat.le_trans (List.length_filter_le _ _) hl
  rw [bind_ok, this, bind_ok, if_pos len]
theorem filter_true {α : Type} (l : List α) : l.filter (fun _ => true) = l := List.filter_eq_self.mpr fun _ _ => rfl
/-! #### maths: wfg15 -/
theorem gave_flat {E : List (List Int)} {a : Nat} {t : Int} (ha : a < E.length) : (gave E a t).flatten.Perm (t :: E.flatten) := by
  have e0 : E.getD a [] = E[a] := by simp [List.getD_eq_getElem?_getD, ha]
  have e1 : gave E a t = E.take a ++ sortI (E[a] ++ [t]) :: E.drop (a + 1) := by
    unfold gave
    rw [e0, List.set_eq_take_append_cons_drop, if_pos ha]
  have e2 : E = E.take a ++ E[a] :: E.drop (a + 1) := by
    conv => lhs; rw [← List.take_append_drop a E, List.drop_eq_getElem_cons ha]
  rw [e1, List.flatten_append, List.flatten_cons]
  have p1 : (sortI (E[a] ++ [t]) ++ (E.drop (a + 1)).flatten).Perm (t :: (E[a] ++ (E.drop (a + 1)).flatten)) := by
    refine ((sortI_perm _).append_right _).trans ?_
    have : (E[a] ++ [t]).Perm (t :: E[a]) := List.perm_append_comm
    exact this.append_right _
  refine (p1.append_left _).trans ?_
  refine List.perm_middle.trans ?_
  refine List.Perm.cons t ?_
  rw [← List.flatten_cons, ← List.flatten_append, ← e2]
theorem wf_gave {m a : Nat} {E : List (List Int)} {t : Int} (S : WfS m E) (ha : a < E.length) (ht : 0 ≤ t ∧ t < m) (hn : ∀ s ∈ E, t ∉ s) : WfS m (gave E a t) := by
  have hE : E.getD a [] ∈ E := getD_mem ha
  refine ⟨fun s hs v hv => ?_, fun s hs => ?_, ?_⟩
  · unfold gave at hs
    rcases List.mem_or_eq_of_mem_set hs with h | rfl
    · exact S.num s h v hv
    · rcases List.mem_append.mp (sort_mem.mp hv) with h | h
      · exact S.num _ hE v h
      · rw [List.mem_singleton.mp h]; exact ht
  · unfold gave at hs
    rcases List.mem_or_eq_of_mem_set hs with h | rfl
    · exact S.up s h
    · have nd : (E.getD a [] ++ [t]).Nodup := by
        refine List.nodup_append.mpr ⟨(S.up _ hE).imp fun h => by omega, by simp, fun x hx y hy e => ?_⟩
        rw [List.mem_singleton.mp hy] at e
        exact hn _ hE (e ▸ hx)
      have nd2 : (sortI (E.getD a [] ++ [t])).Nodup := (sortI_perm _).nodup_iff.mpr nd
      have so := sortI_sorted (E.getD a [] ++ [t])
      have both := so.and nd2
      exact both.imp fun h => by have := h.1; have := h.2; omega
  · rw [(gave_flat ha).nodup_iff]
    refine List.nodup_cons.mpr ⟨fun h => ?_, S.nd⟩
    obtain ⟨s, hs, hv⟩ := List.mem_flatten.mp h
    exact hn s hs hv
theorem mem_gave {a : Nat} {E : List (List Int)} {t v : Int} (ha : a < E.length) {s : List Int} (hs : s ∈ gave E a t) (hv : v ∈ s) : v = t ∨ ∃ s' ∈ E, v ∈ s' := by
  have : v ∈ (gave E a t).flatten := List.mem_flatten.mpr ⟨s, hs, hv⟩
  rw [(gave_flat ha).mem_iff] at this
  rcases List.mem_cons.mp this with h | h
  · exact .inl h
  · exact .inr (List.mem_flatten.mp h)
/-! #### maths: empty15 -/
def emptyS (n : Nat) : List (List Int) := (List.range n).map fun _ => []
theorem emptyS_mem {n : Nat} {s : List Int} (h : s ∈ emptyS n) : s = [] := by
  obtain ⟨_, _, rfl⟩ := List.mem_map.mp h
  rfl
theorem emptyS_len (n : Nat) : (emptyS n).length = n := by simp [emptyS]
theorem emptyS_flat (n : Nat) : (emptyS n).flatten = [] := List.flatten_eq_nil_iff.mpr fun _ h => emptyS_mem h
theorem emptyS_wf (m n : Nat) : WfS m (emptyS n) := ⟨fun s hs v hv => (by rw [emptyS_mem hs] at hv; cases hv), fun s hs => (by rw [emptyS_mem hs]; exact List.Pairwise.nil), by rw [emptyS_flat]; exact List.nodup_nil⟩
/-! #### maths: one15 -/
/-! heirs of one mind -/
theorem call_i2 {f : List PD → Out R} {a b : ED} {ρ : Z.Env} {d1 d2 : PD} {r : R} (h1 : a ρ = .ok (.im d1)) (h2 : b ρ = .ok (.im d2)) (hf : f [d1, d2] = .ok r) : callD f (consA a (consA b nilA)) ρ = .ok r := by
  unfold callD
  simp only [consA, nilA, h1, bind_ok, h2, List.map_cons, List.map_nil, e_fz1, e_dat1, hf]
  rfl
theorem index_int (l : List Int) (h : Int) (hm : h ∈ l) : indexF (T1 l) (.int h) = some (.int (l.idxOf h : Nat)) := by
  have : (T1 l).findIdx? (fun z => PyData.eqv z (.int h)) = some (l.idxOf h) := by
    induction l with
    | nil => cases hm
    | cons a l ih =>
      simp only [T1, List.map_cons, List.findIdx?_cons, eqv_int]
      by_cases h1 : a = h
      · subst h1; simp
      · have hm' : h ∈ l := by
          rcases List.mem_cons.mp hm with e | e
          · exact absurd e.symm h1
          · exact e
        have h3 : (a == h) = false := by simpa using h1
        simp only [h1, decide_false, Bool.false_eq_true, if_false]
        have ih' := ih hm'
        simp only [T1] at ih'
        rw [ih']
        simp [List.idxOf_cons, h3]
  unfold indexF
  have s1 : shp (.list (T1 l)) = true := shp_L1 l
  rw [s1, shp_int, this]
  rfl
def one (n : Nat) (row : List Int) : List (List Int) := List.replicate n row
def sumsOf (row : List Int) (X : List (List Int)) : List Int := X.map (tot row)
def toOf (row : List Int) (X : List (List Int)) : Nat := (sumsOf row X).idxOf (minL (sumsOf row X))
theorem sums_ne {row : List Int} {X : List (List Int)} (h : 1 ≤ X.length) : sumsOf row X ≠ [] := by
  unfold sumsOf
  intro e
  have := List.map_eq_nil_iff.mp e
  rw [this] at h
  simp at h
theorem to_lt {row : List Int} {X : List (List Int)} (h : 1 ≤ X.length) : toOf row X < X.length := by
  have := List.idxOf_lt_length_iff.mpr (minL_mem (sums_ne (row := row) h))
  unfold toOf
  simpa [sumsOf] using this
theorem one_row {n : Nat} {row : List Int} {i : Nat} (h : i < n) : (one n row).getD i [] = row := by
  simp [one, List.getD_eq_getElem?_getD, h]
theorem one_len (n : Nat) (row : List Int) : (one n row).length = n := List.length_replicate
theorem one_wf {n m : Nat} {row : List Int} (h1 : 1 ≤ n) (h8 : n ≤ 8) (m40 : m ≤ 40) (hl : row.length = m) (hv : ∀ v ∈ row, 0 ≤ v ∧ v < 1000001) : WfT (one n row) m :=
  ⟨by rw [one_len]; exact h1, by rw [one_len]; exact h8, m40, fun r hr => by rw [(List.mem_replicate.mp hr).2]; exact hl, fun r hr => by rw [(List.mem_replicate.mp hr).2]; exact hv⟩
theorem one_env {n : Nat} {row : List Int} {X : List (List Int)} {i j : Nat} (hi : i < n) : envyB (one n row) X i j = decide (tot row (X.getD i []) < tot row (X.getD j [])) := by
  simp only [envyB, one_row hi]
theorem one_no {n m : Nat} {row : List Int} {X : List (List Int)} (W : WfT (one n row) m) (hl : X.length = n) (S : WfS m X) : restL (envyB (one n row) X) n = [] := by
  have hl' : X.length = (one n row).length := by rw [one_len]; exact hl
  by_cases c : restL (envyB (one n row) X) n = []
  · exact c
  · have q := (ring_eq W hl' S).2
    rw [one_len] at q
    obtain ⟨r, _, R⟩ := q c
    exfalso
    have two := R.two
    have up : ∀ k, (hk : k < r.length) → tot row (X.getD (r[0]'(by omega)) []) ≤ tot row (X.getD r[k] []) := by
      intro k
      induction k with
      | zero => intro hk; exact Int.le_refl _
      | succ k ih =>
        intro hk
        have h1 := ih (by omega)
        have h2 := R.nx k hk
        rw [one_env (R.lt _ (List.getElem_mem _)), decide_eq_true_eq] at h2
        omega
    have h3 := up (r.length - 1) (by omega)
    have h4 := R.la (by omega)
    rw [one_env (R.lt _ (List.getElem_mem _)), decide_eq_true_eq] at h4
    omega
theorem sums_at {row : List Int} {X : List (List Int)} {i : Nat} (h : i < X.length) : (sumsOf row X)[i]'(by simpa [sumsOf] using h) = tot row (X.getD i []) := by
  simp [sumsOf, List.getD_eq_getElem?_getD, h]
theorem one_to {n : Nat} {row : List Int} {X : List (List Int)} (h1 : 1 ≤ n) (hl : X.length = n) : unenv (envyB (one n row) X) (List.range n) = some (toOf row X) := by
  have tl : toOf row X < n := by rw [← hl]; exact to_lt (by omega)
  have ht : tot row (X.getD (toOf row X) []) = minL (sumsOf row X) := by
    rw [← sums_at (by omega)]
    exact List.getElem_idxOf (List.idxOf_lt_length_iff.mpr (minL_mem (sums_ne (by omega))))
  have ge : ∀ i, i < n → minL (sumsOf row X) ≤ tot row (X.getD i []) := fun i hi => by
    rw [← sums_at (by omega)]
    exact minL_le (List.getElem_mem _)
  unfold unenv
  rw [List.find?_eq_some_iff_getElem]
  refine ⟨?_, toOf row X, by simpa using tl, by simp, fun j hj => ?_⟩
  · rw [Bool.not_eq_true', List.any_eq_false]
    intro h hh
    rw [one_env (List.mem_range.mp hh), ht]
    have := ge h (List.mem_range.mp hh)
    rw [decide_eq_true_eq]
    omega
  · simp only [List.getElem_range, Bool.not_not]
    rw [List.any_eq_true]
    refine ⟨toOf row X, List.mem_range.mpr tl, ?_⟩
    rw [one_env tl, ht, decide_eq_true_eq]
    have g := ge j (by omega)
    have ne : tot row (X.getD j []) ≠ minL (sumsOf row X) := by
      intro e
      have hj2 : j < (sumsOf row X).length := by simp [sumsOf]; omega
      have e2 : (sumsOf row X)[j] = minL (sumsOf row X) := by rw [sums_at (by omega), e]
      have := List.not_of_lt_findIdx (p := fun x => x == minL (sumsOf row X)) (show j < (sumsOf row X).findIdx (fun x => x == minL (sumsOf row X)) from hj)
      simp [e2] at this
    omega
theorem lto_eq {m : Nat} {row : List Int} {X : List (List Int)} (hr : row.length = m) (h1 : 1 ≤ X.length) (h8 : X.length ≤ 8) (S : WfS m X) : f__law_to [L1 row, LL X] = .ok (.im (.int (toOf row X : Nat))) := by
  unfold f__law_to
  rw [den_eq]
  show fin (d__law_to [.im (L1 row), .im (LL X), .no, .no]) = _
  unfold d__law_to
  have q : asgD 2 (lcD (itJ (varD 1)) [3] (.nm 3) yesT (callD f__law_sum (consA (varD 0) (consA (varD 3) nilA)))) [.im (L1 row), .im (LL X), .no, .no] = .nx [.im (L1 row), .im (LL X), .ow 0 (T1 (sumsOf row X)), .no] := by
    have c := lcD_im (s := itJ (varD 1)) (vs := [3]) (k := .nm 3) (e := callD f__law_sum (consA (varD 0) (consA (varD 3) nilA))) (ρ := [.im (L1 row), .im (LL X), .no, .no]) X (fun r => L1 r) (fun r => .int (tot row r)) rfl (by omega) (fun r hx => ⟨_, rfl, call_i2 (a := varD 0) (b := varD 3) rfl rfl (lsum_eq row r fun t ht => by rw [hr]; exact S.num r hx t ht)⟩)
    have e : (@List.map (List Int) PD (fun r => PyData.int (tot row r)) X) = T1 (sumsOf row X) := by
      show _ = (X.map (tot row)).map PyData.int
      rw [List.map_map]
      rfl
    rw [e] at c
    unfold asgD
    rw [c]
    rfl
  rw [seq_of q]
  have ne := sums_ne (row := row) h1
  have hm := minL_mem ne
  have ix := index_int _ _ hm
  have c1 : cbD minF (consA (varD 2) nilA) [.im (L1 row), .im (LL X), .ow 0 (T1 (sumsOf row X)), .no] = .ok (.im (.int (minL (sumsOf row X)))) := by
    generalize sumsOf row X = U at *
    simp [ne]
  have c2 : indexD (varD 2) (cbD minF (consA (varD 2) nilA)) [.im (L1 row), .im (LL X), .ow 0 (T1 (sumsOf row X)), .no] = .ok (.im (.int (toOf row X : Nat))) := by
    have v : varD 2 [.im (L1 row), .im (LL X), .ow 0 (T1 (sumsOf row X)), .no] = .ok (.ro 0 (T1 (sumsOf row X))) := rfl
    unfold indexD
    rw [v, bind_ok, e_datr0]
    show ((cbD minF (consA (varD 2) nilA) [.im (L1 row), .im (LL X), .ow 0 (T1 (sumsOf row X)), .no]).bind _) = _
    rw [c1, bind_ok]
    show (match indexF (T1 (sumsOf row X)) (.int (minL (sumsOf row X))) with | some d => _ | none => _) = _
    rw [ix]
    rfl
  unfold retD
  rw [c2]
  rfl
/-! #### maths: put15 -/
theorem gave_len (E : List (List Int)) (a : Nat) (t : Int) : (gave E a t).length = E.length := by simp [gave]
def putO (row : List Int) (X : List (List Int)) (ts : List Int) : List (List Int) := ts.foldl (fun X t => gave X (toOf row X) t) X
theorem putO_snoc (row : List Int) (X : List (List Int)) (ts : List Int) (t : Int) : putO row X (ts ++ [t]) = gave (putO row X ts) (toOf row (putO row X ts)) t := by
  unfold putO
  rw [List.foldl_append]
  rfl
structure OkP (m n : Nat) (X : List (List Int)) (ts : List Int) : Prop where
  wf : WfS m X
  len : X.length = n
  nd : ts.Nodup
  rg : ∀ t ∈ ts, 0 ≤ t ∧ t < (m : Int)
  no : ∀ t ∈ ts, ∀ s ∈ X, t ∉ s
theorem OkP.step {m n : Nat} {row : List Int} {X : List (List Int)} {t : Int} {ts : List Int} (h1 : 1 ≤ n) (P : OkP m n X (t :: ts)) : OkP m n (gave X (toOf row X) t) ts := by
  have hl := P.len
  have tl : toOf row X < X.length := to_lt (by omega)
  refine ⟨wf_gave P.wf tl (P.rg t List.mem_cons_self) (P.no t List.mem_cons_self), (gave_len _ _ _).trans hl, (List.nodup_cons.mp P.nd).2, fun u hu => P.rg u (List.mem_cons_of_mem _ hu), fun u hu s hs hv => ?_⟩
  rcases mem_gave tl hs hv with h | ⟨s', hs', hv'⟩
  · exact (List.nodup_cons.mp P.nd).1 (h ▸ hu)
  · exact P.no u (List.mem_cons_of_mem _ hu) s' hs' hv'
theorem OkP.at {m n : Nat} {row : List Int} {X : List (List Int)} {ts : List Int} (h1 : 1 ≤ n) (P : OkP m n X ts) : ∀ i, i ≤ ts.length → OkP m n (putO row X (ts.take i)) (ts.drop i)
  | 0, _ => P
  | i + 1, h => by
    have ih := OkP.at (row := row) h1 P i (by omega)
    rw [List.drop_eq_getElem_cons (show i < ts.length by omega)] at ih
    have e : ts.take (i + 1) = ts.take i ++ [ts[i]'(by omega)] := by
      rw [List.take_add_one, List.getElem?_eq_getElem (show i < ts.length by omega)]
      rfl
    rw [e, putO_snoc]
    exact ih.step h1
theorem OkP.all {m n : Nat} {row : List Int} {X : List (List Int)} {ts : List Int} (h1 : 1 ≤ n) (P : OkP m n X ts) : WfS m (putO row X ts) ∧ (putO row X ts).length = n := by
  have := P.at (row := row) h1 ts.length (Nat.le_refl _)
  rw [List.take_length] at this
  exact ⟨this.wf, this.len⟩
theorem one_path {n m : Nat} {row : List Int} {X : List (List Int)} (W : WfT (one n row) m) (hl : X.length = n) (S : WfS m X) : Path (one n row) X [] X := by
  have h := one_no W hl S
  have hl' : X.length = (one n row).length := by rw [one_len]; exact hl
  have q := (ring_eq W hl' S).1
  rw [one_len] at q
  exact .done (by rw [one_len]; exact h) (q h)
theorem one_award {n m : Nat} {row : List Int} {X : List (List Int)} {t : Int} {ts : List Int} (W : WfT (one n row) m) (P : OkP m n X (t :: ts)) :
    f_steps [LL (one n row), LL X, .int t] = .ok (.fr 0 [giveD t (toOf row X)]) ∧ f_awarded [LL (one n row), LL X, .int t] = .ok (.fr 1 (T2 (gave X (toOf row X) t))) := by
  have h1 : 1 ≤ n := by have := W.h1; rw [one_len] at this; exact this
  obtain ⟨a, ha, st, aw⟩ := awarded_eq W (by rw [one_len]; exact P.len) P.wf (P.rg t List.mem_cons_self) (P.no t List.mem_cons_self) (one_path W P.len P.wf) (by simp)
  rw [one_len, one_to h1 P.len] at ha
  cases ha
  exact ⟨st, aw⟩
theorem lput_eq {n m : Nat} {row : List Int} {X : List (List Int)} {ts : List Int} (W : WfT (one n row) m) (P : OkP m n X ts) : f__law_put [L1 row, LL X, L1 ts] = .ok (.fr 1 (T2 (putO row X ts))) := by
  have h1 : 1 ≤ n := by have := W.h1; rw [one_len] at this; exact this
  have h8 : n ≤ 8 := by have := W.h8; rw [one_len] at this; exact this
  have m40 := W.m40
  have hr : row.length = m := W.len row (by simp [one]; omega)
  have hl := P.len
  have cp := copy_eq X (by omega)
  unfold f__law_put
  rw [den_eq]
  show fin (d__law_put [.im (L1 row), .im (LL X), .im (L1 ts), .no, .no]) = _
  unfold d__law_put
  have q1 : asgD 1 (callD f__law_copy (consA (varD 1) nilA)) [.im (L1 row), .im (LL X), .im (L1 ts), .no, .no] = .nx [.im (L1 row), .ow 1 (T2 X), .im (L1 ts), .no, .no] := by
    have c5 : callD f__law_copy (consA (varD 1) nilA) [.im (L1 row), .im (LL X), .im (L1 ts), .no, .no] = .ok (.fr 1 (T2 X)) := by
      unfold callD
      show (match f__law_copy [LL X] with | .ok r => _ | .ex c => _ | .st => _) = _
      rw [cp]
      rfl
    unfold asgD
    rw [c5]
    rfl
  rw [seq_of q1]
  refine fin_for (fun i ρ => ∃ y3 y4, ρ = [.im (L1 row), .ow 1 (T2 (putO row X (ts.take i))), .im (L1 ts), y3, y4]) ts PyData.int rfl ⟨.no, .no, rfl⟩ ?_ ?_
  · rintro i hi ρ ⟨y3, y4, rfl⟩
    have Q := P.at (row := row) h1 i (by omega)
    have e : ts.take (i + 1) = ts.take i ++ [ts[i]] := by
      rw [List.take_add_one, List.getElem?_eq_getElem hi]
      rfl
    rw [e, putO_snoc]
    generalize putO row X (ts.take i) = Y at *
    generalize ts[i] = t at *
    have ly := Q.len
    have tl : toOf row Y < Y.length := to_lt (by omega)
    have lt := lto_eq (m := m) hr (by omega) (by omega) Q.wf
    show Stp _ (seqD (asgD 4 _) (setD 1 _ _ _) [.im (L1 row), .ow 1 (T2 Y), .im (L1 ts), .im (.int t), y4])
    have q2 : asgD 4 (callD f__law_to (consA (varD 0) (consA (varD 1) nilA))) [.im (L1 row), .ow 1 (T2 Y), .im (L1 ts), .im (.int t), y4] = .nx [.im (L1 row), .ow 1 (T2 Y), .im (L1 ts), .im (.int t), .im (.int (toOf row Y : Nat))] := by
      unfold asgD
      rw [call2 (a := varD 0) (b := varD 1) (r1 := .im (L1 row)) (r2 := .ro 1 (T2 Y)) rfl rfl rfl (dat_T2 _) lt rfl]
      rfl
    generalize toOf row Y = a at *
    have lX := Q.wf.slen (getD_mem tl)
    have c1 : ixD (varD 1) (varD 4) [.im (L1 row), .ow 1 (T2 Y), .im (L1 ts), .im (.int t), .im (.int (a : Nat))] = .ok (.ro 0 (T1 (Y.getD a []))) := by
      have b := at_getD (l := Y) (i := a) (by omega)
      simp [-List.getD_eq_getElem?_getD, T2, atI_map, b]
    have c2 : lstD (consA (varD 3) nilA) [.im (L1 row), .ow 1 (T2 Y), .im (L1 ts), .im (.int t), .im (.int (a : Nat))] = .ok (.fr 0 ([.int t] : List PD)) := by simp
    have k0 : (T1 (Y.getD a [])).length + ([.int t] : List PD).length ≤ 100000 := by rw [List.length_map]; show _ + 1 ≤ _; omega
    have c3 := addD_ok c1 c2 (e_datr0 _) (e_datf0 _) rfl (kids_fr0 _) k0
    have e4 : T1 (Y.getD a []) ++ [PyData.int t] = T1 (Y.getD a [] ++ [t]) := by simp
    have c4 := sort_ok (c3.trans (congrArg (fun z : List PD => Out.ok (R.fr 0 z)) e4))
    have q4 := set_1 (i := 1) (ρ := [.im (L1 row), .ow 1 (T2 Y), .im (L1 ts), .im (.int t), .im (.int (a : Nat))]) (A := T2 Y) (k := a) rfl (ix := varD 4) rfl (by rw [List.length_map]; omega) c4
    have e5 : (T2 Y).set a (T1 (sortI (Y.getD a [] ++ [t]))) = T2 (gave Y a t) := by
      unfold gave T2
      rw [List.map_set]
    rw [e5] at q4
    rw [seq_of q2, q4]
    exact stp_nx ⟨_, _, rfl⟩
  · rintro ρ ⟨y3, y4, rfl⟩
    rw [List.take_length]
    rfl
theorem empty_ok (m n : Nat) : OkP m n (emptyS n) (rangeL 0 (m : Int)) := by
  refine ⟨emptyS_wf m n, emptyS_len n, ?_, fun t ht => ?_, fun t _ s hs => ?_⟩
  · rw [rangeL_eq, List.Nodup, List.pairwise_map]
    exact List.nodup_range.imp fun hab e => hab (by omega)
  · rw [rangeL_eq, List.mem_map] at ht
    obtain ⟨j, hj, rfl⟩ := ht
    have := List.mem_range.mp hj
    omega
  · rw [emptyS_mem hs]
    simp
theorem rangeL_take (m i : Nat) (h : i ≤ m) : (rangeL 0 (m : Int)).take i = rangeL 0 (i : Int) := by
  rw [rangeL_eq, rangeL_eq, ← List.map_take, List.take_range, Nat.min_eq_left h]
theorem one_dealt {n m : Nat} {row : List Int} (W : WfT (one n row) m) : f_dealt [LL (one n row)] = .ok (.fr 1 (T2 (putO row (emptyS n) (rangeL 0 (m : Int))))) := by
  have h1 : 1 ≤ n := by have := W.h1; rw [one_len] at this; exact this
  have h8 : n ≤ 8 := by have := W.h8; rw [one_len] at this; exact this
  have m40 := W.m40
  have nt := need_table_eq W
  have ol := one_len n row
  have a5 : atI (one n row) 0 = some row := by
    rw [atI_nat _ _ (by omega) (by omega)]
    show (List.replicate n row)[0]? = some row
    rw [List.getElem?_replicate, if_pos (by omega)]
  have hr : row.length = m := W.len row (by simp [one]; omega)
  have a3 : (-100000 : Int) ≤ (m : Int) ∧ (m : Int) ≤ 100000 := by omega
  have P := empty_ok m n
  unfold f_dealt
  rw [den_eq]
  show fin (d_dealt [.im (LL (one n row)), .no, .no, .no]) = _
  unfold d_dealt
  have q1 : exprD (callD f_need_table (consA (varD 0) nilA)) [.im (LL (one n row)), .no, .no, .no] = .nx [.im (LL (one n row)), .no, .no, .no] := by
    have c5 : callD f_need_table (consA (varD 0) nilA) [.im (LL (one n row)), .no, .no, .no] = .ok (.im .none) := by
      unfold callD
      show (match f_need_table [LL (one n row)] with | .ok r => _ | .ex c => _ | .st => _) = _
      rw [nt]
      rfl
    unfold exprD
    rw [c5]
    rfl
  have q2 : asgD 1 (lcFD 0 (itJ (varD 0)) [3] (.nm 3) yesT (lstD nilA)) [.im (LL (one n row)), .no, .no, .no] = .nx [.im (LL (one n row)), .ow 1 (T2 (putO row (emptyS n) ((rangeL 0 (m : Int)).take 0))), .no, .no] := by
    have c1 := lcFD_all (n := 0) (s := itJ (varD 0)) (vs := [3]) (k := .nm 3) (e := lstD nilA) (ρ := [.im (LL (one n row)), .no, .no, .no]) (one n row) (fun r => L1 r) (fun _ => ([] : List PD)) (by simp) (by omega) (fun x hx => ⟨_, rfl, by simp⟩)
    have e1 : (@List.map (List Int) (Z.Ty 1) (fun _ => ([] : List PD)) (one n row)) = T2 (putO row (emptyS n) ((rangeL 0 (m : Int)).take 0)) := by
      show (one n row).map (fun _ => ([] : List PD)) = (emptyS n).map fun r => r.map PyData.int
      unfold emptyS one
      rw [List.map_map]
      apply List.ext_getElem
      · simp
      · intro i h1 h2
        simp
    rw [e1] at c1
    unfold asgD
    rw [c1]
    rfl
  rw [seq_of q1, seq_of q2]
  refine fin_for (fun i ρ => ∃ x, ρ = [.im (LL (one n row)), .ow 1 (T2 (putO row (emptyS n) ((rangeL 0 (m : Int)).take i))), x, .no]) (List.range m) (fun (i : Nat) => PyData.int (i : Nat)) (by simp [atI_map, a5, hr, a3]) ⟨.no, rfl⟩ ?_ ?_
  · rintro i hi ρ ⟨x, rfl⟩
    have hi' : i < m := by simpa using hi
    rw [List.getElem_range]
    have rl : (rangeL 0 (m : Int)).length = m := by rw [rangeL_eq]; simp
    have Q := P.at (row := row) h1 i (by omega)
    rw [List.drop_eq_getElem_cons (show i < (rangeL 0 (m : Int)).length by omega)] at Q
    have gi : (rangeL 0 (m : Int))[i]'(by omega) = (i : Int) := by simp [rangeL_eq]
    rw [gi] at Q
    have e : (rangeL 0 (m : Int)).take (i + 1) = (rangeL 0 (m : Int)).take i ++ [(i : Int)] := by
      rw [List.take_add_one, List.getElem?_eq_getElem (show i < (rangeL 0 (m : Int)).length by omega), gi]
      rfl
    rw [e, putO_snoc]
    have aw := (one_award W Q).2
    generalize putO row (emptyS n) ((rangeL 0 (m : Int)).take i) = Y at *
    have q : asgD 1 (callD f_awarded (consA (varD 0) (consA (varD 1) (consA (varD 2) nilA)))) [.im (LL (one n row)), .ow 1 (T2 Y), .im (.int (i : Nat)), .no] = .nx [.im (LL (one n row)), .ow 1 (T2 (gave Y (toOf row Y) (i : Int))), .im (.int (i : Nat)), .no] := by
      unfold asgD
      rw [call3 (a := varD 0) (b := varD 1) (c := varD 2) (r1 := .im (LL (one n row))) (r2 := .ro 1 (T2 Y)) rfl rfl rfl rfl (dat_T2 _) rfl aw (flat_T2 _)]
      rfl
    show Stp _ (asgD 1 (callD f_awarded (consA (varD 0) (consA (varD 1) (consA (varD 2) nilA)))) [.im (LL (one n row)), .ow 1 (T2 Y), .im (.int (i : Nat)), .no])
    rw [q]
    exact stp_nx ⟨_, rfl⟩
  · rintro ρ ⟨x, rfl⟩
    have rl : (rangeL 0 (m : Int)).length = m := by rw [rangeL_eq]; simp
    rw [List.length_range, List.take_of_length_le (by omega)]
    rfl
/-! #### maths: obj15 -/
/-! the estate -/
abbrev fR : Str := Str.ofString "_rows"
abbrev fH : Str := Str.ofString "_held"
def StE (rows held : List (List Int)) : List (Str × PD) := [(fR, LL rows), (fH, LL held)]
theorem hr_ne : (fH == fR) = false := by decide +kernel
theorem rh_ne : (fR == fH) = false := by decide +kernel
theorem ne_rh : ¬ fR = fH := by decide +kernel
theorem look_r (rows held : List (List Int)) : (StE rows held).lookup fR = some (LL rows) := by simp [StE, List.lookup]
theorem look_h (rows held : List (List Int)) : (StE rows held).lookup fH = some (LL held) := by simp [StE, List.lookup, hr_ne]
theorem set_r (rows held : List (List Int)) (Z : List (List Int)) : setP fR (LL Z) (StE rows held) = StE Z held := by simp [StE, setP]
theorem set_h (rows held : List (List Int)) (Z : List (List Int)) : setP fH (LL Z) (StE rows held) = StE rows Z := by simp [StE, setP, ne_rh]
theorem look_m (rows held : List (List Int)) (m : Str) (h1 : (m == fR) = false) (h2 : (m == fH) = false) : ((StE rows held).lookup m).isNone = true := by simp [StE, List.lookup, h1, h2]
theorem fld_ok {Cl p : Addr} {i : Nat} {f : Str} {fs : List (Str × PD)} {d : PD} {ρ : Z.Env} (h : ρ[i]? = some (.ob p Cl fs)) (l : fs.lookup f = some d) : fldD Cl i f ρ = .ok (.im d) := by
  unfold fldD
  rw [h]
  simp only [if_true, l]
theorem setF_ok {Cl p : Addr} {i : Nat} {f : Str} {fs : List (Str × PD)} {d : PD} {e : ED} {r : R} {ρ : Z.Env} (he : e ρ = .ok r) (hz : r.fz = .im d) (h : ρ[i]? = some (.ob p Cl fs)) (hl : fs.length < 1000) : setFD Cl i f e ρ = .nx (ρ.set i (.ob p Cl (setP f d fs))) := by
  unfold setFD
  rw [he]
  simp only [hz, h]
  rw [if_pos ⟨trivial, hl⟩]
theorem callO_im {Cl p : Addr} {j : Nat} {ok : List (Str × PD) → Bool} {f : Addr → List (Str × PD) → List PD → OB} {fs fs' : List (Str × PD)} {a : AD} {rs : List R} {ds : List PD} {d : PD} {ρ : Z.Env} (h : ρ[j]? = some (.ob p Cl fs)) (hk : ok fs = true) (ha : a ρ = .ok rs) (hi : rs = ds.map R.im) (hf : f p fs ds = .ok (.im d) fs') : callO Cl f ok j a ρ = .ok (.im d) (ρ.set j (.ob p Cl fs')) := by
  subst hi
  have e1 : (ds.map R.im).all R.isIm = true := by rw [List.all_map]; exact List.all_eq_true.mpr fun _ _ => rfl
  have e2 : (ds.map R.im).map R.dat = ds := by rw [List.map_map]; exact (List.map_congr_left fun _ _ => rfl).trans (List.map_id ds)
  unfold callO
  rw [h]
  simp only [hk, and_self, if_true, ha, noX, e1, e2, hf]
theorem callO_fr {Cl p : Addr} {j n : Nat} {t : Z.Ty (n + 1)} {ok : List (Str × PD) → Bool} {f : Addr → List (Str × PD) → List PD → OB} {fs fs' : List (Str × PD)} {a : AD} {rs : List R} {ds : List PD} {ρ : Z.Env} (h : ρ[j]? = some (.ob p Cl fs)) (hk : ok fs = true) (ha : a ρ = .ok rs) (hi : rs = ds.map R.im) (hf : f p fs ds = .ok (.fr n t) fs') : callO Cl f ok j a ρ = .ok (.fr n t) (ρ.set j (.ob p Cl fs')) := by
  subst hi
  have e1 : (ds.map R.im).all R.isIm = true := by rw [List.all_map]; exact List.all_eq_true.mpr fun _ _ => rfl
  have e2 : (ds.map R.im).map R.dat = ds := by rw [List.map_map]; exact (List.map_congr_left fun _ _ => rfl).trans (List.map_id ds)
  unfold callO
  rw [h]
  simp only [hk, and_self, if_true, ha, noX, e1, e2, hf]
theorem outO_nx {p Cl : Addr} {fs : List (Str × PD)} {ρ : Z.Env} : outO p Cl (.nx (.ob p Cl fs :: ρ)) = .ok (.im .none) fs := by
  simp [outO, isOb]
theorem outO_rv {p Cl : Addr} {r : R} {fs : List (Str × PD)} {ρ : Z.Env} : outO p Cl (.rv r (.ob p Cl fs :: ρ)) = .ok r fs := by
  simp [outO, isOb]
theorem pure_im {e : ED} {ρ : Z.Env} {d : PD} (h : e ρ = .ok (.im d)) : pureX e ρ = .ok (.im d) ρ := by
  unfold pureX
  rw [h]
theorem pure_fr {e : ED} {ρ : Z.Env} {n : Nat} {t : Z.Ty (n + 1)} (h : e ρ = .ok (.fr n t)) : pureX e ρ = .ok (.fr n t) ρ := by
  unfold pureX
  rw [h]
theorem retX_ok {d : EX} {ρ ρ' : Z.Env} {r : R} (h : d ρ = .ok r ρ') : retX d ρ = .rv r ρ' := by
  unfold retX
  rw [h]
theorem exprX_ok {d : EX} {ρ ρ' : Z.Env} {r : R} (h : d ρ = .ok r ρ') : exprX d ρ = .nx ρ' := by
  unfold exprX
  rw [h]
theorem seq_cut {a B : SD} {ρ : Z.Env} {r : R} {ρ' : Z.Env} (h : a ρ = .rv r ρ') : seqD a B ρ = .rv r ρ' := by
  unfold seqD
  rw [h]
theorem LL_fz (l : List (List Int)) : R.fz (.fr 0 (l.map fun r => L1 r)) = .im (LL l) := e_fzf0 _
theorem T2_fz (l : List (List Int)) : R.fz (.fr 1 (T2 l)) = .im (LL l) := congrArg R.im (dat_T2 l)
theorem one_nil (n : Nat) : one n [] = emptyS n := by
  unfold one emptyS
  apply List.ext_getElem
  · simp
  · intro i h1 h2
    simp
theorem nils_ok {s : LD} {ρ : Z.Env} {n : Nat} (v : Nat) (h8 : n ≤ 1000) (hs : s ρ = .ok ((List.range n).map fun (i : Nat) => PyData.int (i : Nat))) : lcD s [v] (.nm v) yesT (lstD nilA) ρ = .ok (.fr 0 ((emptyS n).map fun r => L1 r)) := by
  have c := lcD_fil2 (s := s) (vs := [v]) (k := .nm v) (t := yesT) (e := lstD nilA) (ρ := ρ) (List.range n) (fun (k : Nat) => .int (k : Nat)) (fun _ => .list []) (fun _ => true) hs (by simp; omega) (fun x hx => ⟨_, rfl, rfl, fun _ => ⟨.fr 0 ([] : List PD), by simp, e_fzf0 _⟩⟩)
  rw [filter_true] at c
  have e1 : (@List.map Nat PD (fun _ => .list []) (List.range n)) = (emptyS n).map fun r => L1 r := by
    unfold emptyS
    rw [List.map_map]
    rfl
  rw [e1] at c
  exact c
theorem init_eq (Cl p : Addr) {n : Nat} (h1 : 1 ≤ n) (h8 : n ≤ 8) : f_Estate___init__ Cl p [] [.int n] = .ok (.im .none) (StE (emptyS n) (emptyS n)) := by
  have a3 : (-100000 : Int) ≤ (n : Int) ∧ (n : Int) ≤ 100000 := by omega
  show outO p Cl (d_Estate___init__ Cl [.ob p Cl [], .im (.int n), .no]) = _
  unfold d_Estate___init__
  have t1 : (orT (notT (tstD (callD f_is_number_below (consA (varD 1) (consA (addD (cD (.int 8)) (cD (.int 1))) nilA))))) (tstD (binR eqF (varD 1) (cD (.int 0))))) [.ob p Cl [], .im (.int n), .no] = .ok false := by
    have h2 : (0 : Int) ≤ n ∧ (n : Int) < 9 := by omega
    have h3 : ¬ n = 0 := by omega
    simp [is_number_below_eq, h2, h3]
  have k1 := nils_ok (s := rg1D (varD 1)) (ρ := [.ob p Cl [], .im (.int n), .no]) (n := n) 2 (by omega) (by simp [a3])
  have q1 := setF_ok (Cl := Cl) (p := p) (i := 0) (f := fR) (fs := []) k1 (LL_fz _) rfl (by simp)
  have k2 := nils_ok (s := rg1D (varD 1)) (ρ := [.ob p Cl [(fR, LL (emptyS n))], .im (.int n), .no]) (n := n) 2 (by omega) (by simp [a3])
  have q2 := setF_ok (Cl := Cl) (p := p) (i := 0) (f := fH) (fs := [(fR, LL (emptyS n))]) k2 (LL_fz _) rfl (by simp)
  rw [seq_iff t1, seq_of rfl]
  have e1 : setFD Cl 0 fR (lcD (rg1D (varD 1)) [2] (.nm 2) yesT (lstD nilA)) [.ob p Cl [], .im (.int n), .no] = .nx [.ob p Cl [(fR, LL (emptyS n))], .im (.int n), .no] := q1
  have e2 : setFD Cl 0 fH (lcD (rg1D (varD 1)) [2] (.nm 2) yesT (lstD nilA)) [.ob p Cl [(fR, LL (emptyS n))], .im (.int n), .no] = .nx [.ob p Cl (StE (emptyS n) (emptyS n)), .im (.int n), .no] := by
    rw [q2]
    show SO.nx [.ob p Cl (setP fH (LL (emptyS n)) [(fR, LL (emptyS n))]), _, _] = _
    have : setP fH (LL (emptyS n)) [(fR, LL (emptyS n))] = StE (emptyS n) (emptyS n) := by simp [setP, StE, ne_rh]
    rw [this]
  rw [seq_of e1, e2]
  exact outO_nx
theorem shares_eq (Cl p : Addr) (rows held : List (List Int)) (hl : held.length ≤ 1000) : f_Estate_shares Cl p (StE rows held) [] = .ok (.fr 1 (T2 held)) (StE rows held) := by
  show outO p Cl (d_Estate_shares Cl [.ob p Cl (StE rows held), .no]) = _
  unfold d_Estate_shares
  have f1 := fld_ok (Cl := Cl) (p := p) (i := 0) (ρ := [.ob p Cl (StE rows held), .no]) rfl (look_h rows held)
  have c1 := lcFD_all (n := 0) (s := itJ (fldD Cl 0 fH)) (vs := [1]) (k := .nm 1) (e := listD (consA (varD 1) nilA)) (ρ := [.ob p Cl (StE rows held), .no]) held (fun r => L1 r) (fun r => T1 r) (by unfold itJ; rw [f1]; rfl) (by omega) (fun x hx => ⟨_, rfl, by simp⟩)
  rw [retX_ok (pure_fr c1)]
  exact outO_rv
theorem table_eq (Cl p : Addr) (rows held : List (List Int)) (hl : rows.length ≤ 1000) : f_Estate_table Cl p (StE rows held) [] = .ok (.fr 0 (rows.map fun r => L1 r)) (StE rows held) := by
  show outO p Cl (d_Estate_table Cl [.ob p Cl (StE rows held), .no]) = _
  unfold d_Estate_table
  have f1 := fld_ok (Cl := Cl) (p := p) (i := 0) (ρ := [.ob p Cl (StE rows held), .no]) rfl (look_r rows held)
  have c := lcD_fil2 (s := itJ (fldD Cl 0 fR)) (vs := [1]) (k := .nm 1) (t := yesT) (e := listD (consA (varD 1) nilA)) (ρ := [.ob p Cl (StE rows held), .no]) rows (fun r => L1 r) (fun r => L1 r) (fun _ => true) (by unfold itJ; rw [f1]; rfl) (by omega) (fun x hx => ⟨_, rfl, rfl, fun _ => ⟨.fr 0 (T1 x), by simp, e_fzf0 _⟩⟩)
  rw [filter_true] at c
  rw [retX_ok (pure_fr c)]
  exact outO_rv
/-! #### maths: meth15 -/
theorem one_snoc (n : Nat) (row : List Int) : one (n + 1) row = one n row ++ [row] := by
  unfold one
  rw [List.replicate_succ']
theorem at_one {n : Nat} {row : List Int} (h : 1 ≤ n) : atI ((one n row).map fun r => L1 r) 0 = some (L1 row) := by
  have := getDT (D := one n row) (k := 0) (by rw [one_len]; omega)
  rw [one_row (by omega)] at this
  exact this
theorem ix0_ok {Cl p : Addr} {n : Nat} {row : List Int} {held : List (List Int)} {ρ : Z.Env} (h1 : 1 ≤ n) (h : ρ[0]? = some (.ob p Cl (StE (one n row) held))) : ixD (fldD Cl 0 fR) (cD (.int 0)) ρ = .ok (.im (L1 row)) :=
  ix_ok (r1 := .im (LL (one n row))) (k := 0) (fld_ok h (look_r _ _)) rfl (by show ixF (.im (LL (one n row))) 0 = _; rw [ixF_1, at_one h1]; rfl)
theorem need_w {xs : List Int} {n : Nat} (hl : xs.length = n) (h1 : n ≤ 1000) (hv : ∀ v ∈ xs, 0 ≤ v ∧ v < 1000001) : f_need_worths [L1 xs, .int n] = .ok (.im .none) := by
  have a := is_list_below_eq xs 1000001 (by omega)
  rw [inL_of hv] at a
  unfold f_need_worths
  rw [den_eq]
  simp only [L1] at a
  simp [d_need_worths, a, hl, neF_int]
theorem come_eq (Cl p : Addr) {n m : Nat} {row : List Int} {held : List (List Int)} {w : Int} (W : WfT (one n row) m) (hm : m ≤ 39) (hw : 0 ≤ w ∧ w < 1000001) (P : OkP (m + 1) n held [(m : Int)]) :
    f_Estate_come Cl p (StE (one n row) held) [L1 (List.replicate n w)] = .ok (.im (.int (m : Nat))) (StE (one n (row ++ [w])) (gave held (toOf (row ++ [w]) held) (m : Int))) := by
  have h1 : 1 ≤ n := by have := W.h1; rw [one_len] at this; exact this
  have h8 : n ≤ 8 := by have := W.h8; rw [one_len] at this; exact this
  have hr : row.length = m := W.len row (by simp [one]; omega)
  have hv : ∀ v ∈ row, 0 ≤ v ∧ v < 1000001 := W.num row (by simp [one]; omega)
  have W2 : WfT (one n (row ++ [w])) (m + 1) := one_wf h1 h8 (by omega) (by simp [hr]) (fun v h => by
    rcases List.mem_append.mp h with h | h
    · exact hv v h
    · rw [List.mem_singleton.mp h]; exact hw)
  have aw := (one_award W2 P).2
  show outO p Cl (d_Estate_come Cl [.ob p Cl (StE (one n row) held), .im (L1 (List.replicate n w)), .no, .no, .no]) = _
  unfold d_Estate_come
  have nw := need_w (xs := List.replicate n w) (n := n) (by simp) (by omega) (fun v h => by rw [(List.mem_replicate.mp h).2]; exact hw)
  have l0 := len_ok (a := fldD Cl 0 fR) (r := .im (LL (one n row))) (ρ := [.ob p Cl (StE (one n row) held), .im (L1 (List.replicate n w)), .no, .no, .no]) (fld_ok rfl (look_r _ _)) rfl
  rw [List.length_map, one_len] at l0
  have q1 : exprX (pureX (callD f_need_worths (consA (varD 1) (consA (cbD lenF (consA (fldD Cl 0 fR) nilA)) nilA)))) [.ob p Cl (StE (one n row) held), .im (L1 (List.replicate n w)), .no, .no, .no] = .nx [.ob p Cl (StE (one n row) held), .im (L1 (List.replicate n w)), .no, .no, .no] := exprX_ok (pure_im (call_i2 (a := varD 1) rfl l0 nw))
  have l1 := len_ok (r := .im (L1 row)) (ρ := [.ob p Cl (StE (one n row) held), .im (L1 (List.replicate n w)), .no, .no, .no]) (ix0_ok h1 rfl) rfl
  rw [List.length_map, hr] at l1
  have q2 : asgD 2 (cbD lenF (consA (ixD (fldD Cl 0 fR) (cD (.int 0))) nilA)) [.ob p Cl (StE (one n row) held), .im (L1 (List.replicate n w)), .no, .no, .no] = .nx [.ob p Cl (StE (one n row) held), .im (L1 (List.replicate n w)), .im (.int (m : Nat)), .no, .no] := by
    unfold asgD
    rw [l1]
    rfl
  have t3 : tstD (binR eqF (varD 2) (cD (.int 40))) [.ob p Cl (StE (one n row) held), .im (L1 (List.replicate n w)), .im (.int (m : Nat)), .no, .no] = .ok false := by
    have h : ¬ m = 40 := by omega
    have h2 : ¬ (m : Int) = 40 := by omega
    simp [h2]
  have q4 : setFD Cl 0 fR (lcD (zpD (fldD Cl 0 fR) (varD 1)) [3, 4] (.tp [3, 4]) yesT (addD (varD 3) (lstD (consA (varD 4) nilA)))) [.ob p Cl (StE (one n row) held), .im (L1 (List.replicate n w)), .im (.int (m : Nat)), .no, .no] = .nx [.ob p Cl (StE (one n (row ++ [w])) held), .im (L1 (List.replicate n w)), .im (.int (m : Nat)), .no, .no] := by
    have z : zpD (fldD Cl 0 fR) (varD 1) [.ob p Cl (StE (one n row) held), .im (L1 (List.replicate n w)), .im (.int (m : Nat)), .no, .no] = .ok ((List.range n).map fun _ => .tuple [L1 row, .int w]) := by
      have f1 := fld_ok (Cl := Cl) (p := p) (i := 0) (ρ := [.ob p Cl (StE (one n row) held), .im (L1 (List.replicate n w)), .im (.int (m : Nat)), .no, .no]) rfl (look_r (one n row) held)
      unfold zpD
      rw [f1]
      show Out.ok (zipL ((one n row).map fun r => L1 r) ((List.replicate n w).map PyData.int)) = _
      congr 1
      unfold zipL one
      apply List.ext_getElem
      · simp
      · intro i h1 h2
        simp
    have c := lcD_fil2 (s := zpD (fldD Cl 0 fR) (varD 1)) (vs := [3, 4]) (k := .tp [3, 4]) (t := yesT) (e := addD (varD 3) (lstD (consA (varD 4) nilA))) (ρ := [.ob p Cl (StE (one n row) held), .im (L1 (List.replicate n w)), .im (.int (m : Nat)), .no, .no]) (List.range n) (fun _ => .tuple [L1 row, .int w]) (fun _ => L1 (row ++ [w])) (fun _ => true) z (by simp; omega) (fun i hi => ⟨[.ob p Cl (StE (one n row) held), .im (L1 (List.replicate n w)), .im (.int (m : Nat)), .im (L1 row), .im (.int w)], by simp [bindT, setAll, wipeE], rfl, fun _ => by
      have c5 : lstD (consA (varD 4) nilA) [.ob p Cl (StE (one n row) held), .im (L1 (List.replicate n w)), .im (.int (m : Nat)), .im (L1 row), .im (.int w)] = .ok (.fr 0 ([.int w] : List PD)) := rfl
      have ad := addD_ok (a := varD 3) (r1 := .im (L1 row)) rfl c5 (e_dat1 _) (e_datf0 _) rfl (kids_fr0 _) (by rw [List.length_map]; show _ + 1 ≤ _; omega)
      refine ⟨_, ad, ?_⟩
      rw [e_fzf0]
      simp⟩)
    rw [filter_true] at c
    have e5 : (@List.map Nat PD (fun _ => L1 (row ++ [w])) (List.range n)) = (one n (row ++ [w])).map fun r => L1 r := by
      unfold one
      apply List.ext_getElem
      · simp
      · intro i h1 h2
        simp
    rw [e5] at c
    have q := setF_ok (Cl := Cl) (p := p) (i := 0) (f := fR) (fs := StE (one n row) held) c (LL_fz _) rfl (by simp [StE])
    rw [set_r] at q
    exact q
  have q5 : setFD Cl 0 fH (callD f_awarded (consA (fldD Cl 0 fR) (consA (fldD Cl 0 fH) (consA (varD 2) nilA)))) [.ob p Cl (StE (one n (row ++ [w])) held), .im (L1 (List.replicate n w)), .im (.int (m : Nat)), .no, .no] = .nx [.ob p Cl (StE (one n (row ++ [w])) (gave held (toOf (row ++ [w]) held) (m : Int))), .im (L1 (List.replicate n w)), .im (.int (m : Nat)), .no, .no] := by
    have f1 := fld_ok (Cl := Cl) (p := p) (i := 0) (ρ := [.ob p Cl (StE (one n (row ++ [w])) held), .im (L1 (List.replicate n w)), .im (.int (m : Nat)), .no, .no]) rfl (look_r (one n (row ++ [w])) held)
    have f2 := fld_ok (Cl := Cl) (p := p) (i := 0) (ρ := [.ob p Cl (StE (one n (row ++ [w])) held), .im (L1 (List.replicate n w)), .im (.int (m : Nat)), .no, .no]) rfl (look_h (one n (row ++ [w])) held)
    have c := call3 (c := varD 2) (r3 := .im (.int (m : Nat))) f1 f2 rfl rfl rfl rfl aw (flat_T2 _)
    have q := setF_ok (Cl := Cl) (p := p) (i := 0) (f := fH) (fs := StE (one n (row ++ [w])) held) c (T2_fz _) rfl (by simp [StE])
    rw [set_h] at q
    exact q
  rw [seq_of q1, seq_of q2, seq_iff t3, seq_of rfl, seq_of q4, seq_of q5, retX_ok (pure_im (e := varD 2) rfl)]
  exact outO_rv
theorem join_eq (Cl p : Addr) {n m : Nat} {row : List Int} {held : List (List Int)} (W : WfT (one n row) m) (h7 : n ≤ 7) :
    f_Estate_join Cl p (StE (one n row) held) [L1 row] = .ok (.im (.int (n : Nat))) (StE (one (n + 1) row) (putO row (emptyS (n + 1)) (rangeL 0 (m : Int)))) := by
  have h1 : 1 ≤ n := by have := W.h1; rw [one_len] at this; exact this
  have m40 := W.m40
  have hr : row.length = m := W.len row (by simp [one]; omega)
  have hv : ∀ v ∈ row, 0 ≤ v ∧ v < 1000001 := W.num row (by simp [one]; omega)
  have W2 : WfT (one (n + 1) row) m := one_wf (by omega) (by omega) m40 hr hv
  have de := one_dealt W2
  show outO p Cl (d_Estate_join Cl [.ob p Cl (StE (one n row) held), .im (L1 row), .no]) = _
  unfold d_Estate_join
  have nw := need_w (xs := row) (n := m) hr (by omega) hv
  have l1 := len_ok (r := .im (L1 row)) (ρ := [.ob p Cl (StE (one n row) held), .im (L1 row), .no]) (ix0_ok h1 rfl) rfl
  rw [List.length_map, hr] at l1
  have q1 : exprX (pureX (callD f_need_worths (consA (varD 1) (consA (cbD lenF (consA (ixD (fldD Cl 0 fR) (cD (.int 0))) nilA)) nilA)))) [.ob p Cl (StE (one n row) held), .im (L1 row), .no] = .nx [.ob p Cl (StE (one n row) held), .im (L1 row), .no] := exprX_ok (pure_im (call_i2 (a := varD 1) rfl l1 nw))
  have f1 := fld_ok (Cl := Cl) (p := p) (i := 0) (ρ := [.ob p Cl (StE (one n row) held), .im (L1 row), .no]) rfl (look_r (one n row) held)
  have l0 := len_ok (a := fldD Cl 0 fR) (r := .im (LL (one n row))) f1 rfl
  rw [List.length_map, one_len] at l0
  have q2 : asgD 2 (cbD lenF (consA (fldD Cl 0 fR) nilA)) [.ob p Cl (StE (one n row) held), .im (L1 row), .no] = .nx [.ob p Cl (StE (one n row) held), .im (L1 row), .im (.int (n : Nat))] := by
    unfold asgD
    rw [l0]
    rfl
  have t3 : tstD (binR eqF (varD 2) (cD (.int 8))) [.ob p Cl (StE (one n row) held), .im (L1 row), .im (.int (n : Nat))] = .ok false := by
    have h2 : ¬ (n : Int) = 8 := by omega
    simp [h2]
  have q4 : setFD Cl 0 fR (addD (fldD Cl 0 fR) (lstD (consA (listD (consA (varD 1) nilA)) nilA))) [.ob p Cl (StE (one n row) held), .im (L1 row), .im (.int (n : Nat))] = .nx [.ob p Cl (StE (one (n + 1) row) held), .im (L1 row), .im (.int (n : Nat))] := by
    have f1 := fld_ok (Cl := Cl) (p := p) (i := 0) (ρ := [.ob p Cl (StE (one n row) held), .im (L1 row), .im (.int (n : Nat))]) rfl (look_r (one n row) held)
    have c5 : lstD (consA (listD (consA (varD 1) nilA)) nilA) [.ob p Cl (StE (one n row) held), .im (L1 row), .im (.int (n : Nat))] = .ok (.fr 0 ([L1 row] : List PD)) := by simp
    have ad := addD_ok f1 c5 (e_dat1 _) (e_datf0 _) rfl (kids_fr0 _) (by rw [List.length_map, one_len]; show _ + 1 ≤ _; omega)
    have e : (one n row).map (fun r => L1 r) ++ [L1 row] = (one (n + 1) row).map fun r => L1 r := by rw [one_snoc, List.map_append]; rfl
    have ad' := ad.trans (congrArg (fun z : List PD => Out.ok (R.fr 0 z)) e)
    have q := setF_ok (Cl := Cl) (p := p) (i := 0) (f := fR) (fs := StE (one n row) held) ad' (LL_fz _) rfl (by simp [StE])
    rw [set_r] at q
    exact q
  have q5 : setFD Cl 0 fH (callD f_dealt (consA (fldD Cl 0 fR) nilA)) [.ob p Cl (StE (one (n + 1) row) held), .im (L1 row), .im (.int (n : Nat))] = .nx [.ob p Cl (StE (one (n + 1) row) (putO row (emptyS (n + 1)) (rangeL 0 (m : Int)))), .im (L1 row), .im (.int (n : Nat))] := by
    have f1 := fld_ok (Cl := Cl) (p := p) (i := 0) (ρ := [.ob p Cl (StE (one (n + 1) row) held), .im (L1 row), .im (.int (n : Nat))]) rfl (look_r (one (n + 1) row) held)
    have c : callD f_dealt (consA (fldD Cl 0 fR) nilA) [.ob p Cl (StE (one (n + 1) row) held), .im (L1 row), .im (.int (n : Nat))] = .ok (.fr 1 (T2 (putO row (emptyS (n + 1)) (rangeL 0 (m : Int))))) := by
      unfold callD
      simp only [consA, nilA, f1, bind_ok, List.map_cons, List.map_nil, e_fz1, e_dat1, de]
      rfl
    have q := setF_ok (Cl := Cl) (p := p) (i := 0) (f := fH) (fs := StE (one (n + 1) row) held) c (T2_fz _) rfl (by simp [StE])
    rw [set_h] at q
    exact q
  rw [seq_of q1, seq_of q2, seq_iff t3, seq_of rfl, seq_of q4, seq_of q5, retX_ok (pure_im (e := varD 2) rfl)]
  exact outO_rv
/-! #### maths: frz15 -/
theorem frz0 {i : Nat} {ρ : Z.Env} {l : List PD} (h : ρ[i]? = some (.ow 0 l)) : frzD i ρ = .nx (ρ.set i (.im (.list l))) := by
  have e : Z.Ty.dat 1 l = PyData.list l := dat_one l
  unfold frzD
  rw [h]
  show SO.nx (ρ.set i (.im (Z.Ty.dat 1 l))) = _
  rw [e]
/-! #### maths: go15 -/
def woG {α : Type} (l : List α) (g : Nat) : List α := l.take g ++ l.drop (g + 1)
theorem woG_len {α : Type} {l : List α} {g : Nat} (h : g < l.length) : (woG l g).length = l.length - 1 := by
  unfold woG
  rw [List.length_append, List.length_take, List.length_drop]
  omega
theorem woG_map {α β : Type} (f : α → β) (l : List α) (g : Nat) : woG (l.map f) g = (woG l g).map f := by
  unfold woG
  rw [List.map_append, List.map_take, List.map_drop]
theorem woG_one {n g : Nat} {row : List Int} (h : g < n) : woG (one n row) g = one (n - 1) row := by
  unfold woG one
  rw [List.take_replicate, List.drop_replicate, List.replicate_append_replicate]
  congr 1
  omega
theorem woG_mem {α : Type} {l : List α} {g : Nat} {s : α} (h : s ∈ woG l g) : s ∈ l := by
  rcases List.mem_append.mp h with h | h
  · exact List.mem_of_mem_take h
  · exact List.mem_of_mem_drop h
theorem go_ok {m n g : Nat} {held : List (List Int)} (S : WfS m held) (hl : held.length = n) (hg : g < n) : OkP m (n - 1) (woG held g) (held.getD g []) := by
  have hgl : g < held.length := by omega
  have e0 : held.getD g [] = held[g] := by simp [List.getD_eq_getElem?_getD, hgl]
  have e2 : held = held.take g ++ held[g] :: held.drop (g + 1) := by
    conv => lhs; rw [← List.take_append_drop g held, List.drop_eq_getElem_cons hgl]
  have nd := S.nd
  have ef : held.flatten = (held.take g).flatten ++ (held[g] ++ (held.drop (g + 1)).flatten) := by
    conv => lhs; rw [e2]
    rw [List.flatten_append, List.flatten_cons]
  rw [ef] at nd
  obtain ⟨n1, n2, n3⟩ := List.nodup_append.mp nd
  obtain ⟨n4, n5, n6⟩ := List.nodup_append.mp n2
  have hm : held[g] ∈ held := List.getElem_mem hgl
  rw [e0]
  refine ⟨⟨fun s hs v hv => S.num s (woG_mem hs) v hv, fun s hs => S.up s (woG_mem hs), ?_⟩, ?_, n4, fun t ht => S.num _ hm t ht, fun t ht s hs hv => ?_⟩
  · unfold woG
    rw [List.flatten_append]
    exact List.nodup_append.mpr ⟨n1, n5, fun a ha b hb => n3 a ha b (List.mem_append_right _ hb)⟩
  · rw [woG_len hgl, hl]
  · rcases List.mem_append.mp hs with h | h
    · exact n3 t (List.mem_flatten.mpr ⟨s, h, hv⟩) t (List.mem_append_left _ ht) rfl
    · exact n6 t ht t (List.mem_flatten.mpr ⟨s, h, hv⟩) rfl
theorem cut_len (A : List PD) (g : Nat) (h : A.length ≤ 1000) : (A.take g).length + (A.drop (g + 1)).length ≤ 100000 := by
  rw [List.length_take, List.length_drop]
  omega
theorem cut_ok {a : ED} {e : ED} {ρ : Z.Env} {l : List (List Int)} {g : Nat} (h0 : a ρ = .ok (.im (LL l))) (h2 : e ρ = .ok (.im (.int (g : Nat)))) (hg : g < l.length) (h8 : l.length ≤ 1000) : addD (slD a noO (soO e)) (slD a (soO (addD e (cD (.int 1)))) noO) ρ = .ok (.fr 0 ((woG l g).map fun r => L1 r)) := by
  have c1 := sl_to (one := g) h0 h2 (by rw [List.length_map]; omega)
  have c0 : addD e (cD (.int 1)) ρ = .ok (.im (.int ((g + 1 : Nat) : Int))) := by simp [addD, h2]
  have c2 := sl_of (one := g + 1) h0 c0 (by rw [List.length_map]; omega)
  have ad := addD_ok c1 c2 (e_datf0 _) (e_datf0 _) (kids_fr0 _) (kids_fr0 _) (cut_len _ _ (by rw [List.length_map]; omega))
  have e : (l.map fun r => L1 r).take g ++ (l.map fun r => L1 r).drop (g + 1) = (woG l g).map fun r => L1 r := woG_map _ _ _
  exact ad.trans (congrArg (fun z : List PD => Out.ok (R.fr 0 z)) e)
theorem need_h (rows : List (List Int)) (h : Int) (h0 : 0 ≤ h) (h1 : h < rows.length) : f_need_heir [LL rows, .int h] = .ok (.im .none) := by
  unfold f_need_heir
  rw [den_eq]
  simp [d_need_heir, is_number_below_eq, h0, h1]
theorem go_eq (Cl p : Addr) {n m g : Nat} {row : List Int} {held : List (List Int)} (W : WfT (one n row) m) (S : WfS m held) (hl : held.length = n) (hg : g < n) (h2 : 2 ≤ n) :
    f_Estate_go Cl p (StE (one n row) held) [.int (g : Nat)] = .ok (.im .none) (StE (one (n - 1) row) (putO row (woG held g) (held.getD g []))) := by
  have h8 : n ≤ 8 := by have := W.h8; rw [one_len] at this; exact this
  have m40 := W.m40
  have hr : row.length = m := W.len row (by simp [one]; omega)
  have hv : ∀ v ∈ row, 0 ≤ v ∧ v < 1000001 := W.num row (by simp [one]; omega)
  have W2 : WfT (one (n - 1) row) m := one_wf (by omega) (by omega) m40 hr hv
  have P := go_ok S hl hg
  show outO p Cl (d_Estate_go Cl [.ob p Cl (StE (one n row) held), .im (.int (g : Nat)), .no, .no, .no]) = _
  unfold d_Estate_go
  have nh := need_h (one n row) (g : Int) (by omega) (by rw [one_len]; omega)
  have f1 := fld_ok (Cl := Cl) (p := p) (i := 0) (ρ := [.ob p Cl (StE (one n row) held), .im (.int (g : Nat)), .no, .no, .no]) rfl (look_r (one n row) held)
  have q1 : exprX (pureX (callD f_need_heir (consA (fldD Cl 0 fR) (consA (varD 1) nilA)))) [.ob p Cl (StE (one n row) held), .im (.int (g : Nat)), .no, .no, .no] = .nx [.ob p Cl (StE (one n row) held), .im (.int (g : Nat)), .no, .no, .no] := exprX_ok (pure_im (call_i2 (b := varD 1) f1 rfl nh))
  have l0 := len_ok (a := fldD Cl 0 fR) (r := .im (LL (one n row))) f1 rfl
  rw [List.length_map, one_len] at l0
  have t3 : tstD (binR eqF (cbD lenF (consA (fldD Cl 0 fR) nilA)) (cD (.int 1))) [.ob p Cl (StE (one n row) held), .im (.int (g : Nat)), .no, .no, .no] = .ok false := by
    have c := cmp_ok (f := eqF) (b := cD (.int 1)) (r2 := .im (.int 1)) l0 rfl (e_dat1 _) rfl (eqF_int _ _)
    have h2 : ¬ (n : Int) = 1 := by omega
    unfold tstD
    rw [c, decide_eq_false h2]
    rfl
  have k1 := cut_ok (e := varD 1) (g := g) f1 rfl (by rw [one_len]; exact hg) (by rw [one_len]; omega)
  rw [woG_one hg] at k1
  have q4 : asgD 2 (addD (slD (fldD Cl 0 fR) noO (soO (varD 1))) (slD (fldD Cl 0 fR) (soO (addD (varD 1) (cD (.int 1)))) noO)) [.ob p Cl (StE (one n row) held), .im (.int (g : Nat)), .no, .no, .no] = .nx [.ob p Cl (StE (one n row) held), .im (.int (g : Nat)), .ow 0 ((one (n - 1) row).map fun r => L1 r), .no, .no] := by
    unfold asgD
    rw [k1]
    rfl
  generalize hRW : (one (n - 1) row).map (fun r => L1 r) = RW at *
  have f2 := fld_ok (Cl := Cl) (p := p) (i := 0) (ρ := [.ob p Cl (StE (one n row) held), .im (.int (g : Nat)), .ow 0 RW, .no, .no]) rfl (look_h (one n row) held)
  have k2 := cut_ok (e := varD 1) (g := g) f2 rfl (by omega) (by omega)
  have q5 : asgD 3 (addD (slD (fldD Cl 0 fH) noO (soO (varD 1))) (slD (fldD Cl 0 fH) (soO (addD (varD 1) (cD (.int 1)))) noO)) [.ob p Cl (StE (one n row) held), .im (.int (g : Nat)), .ow 0 RW, .no, .no] = .nx [.ob p Cl (StE (one n row) held), .im (.int (g : Nat)), .ow 0 RW, .ow 0 ((woG held g).map fun r => L1 r), .no] := by
    unfold asgD
    rw [k2]
    rfl
  have gd := getDT (D := held) (k := g) (by omega)
  have si : itD (ixD (fldD Cl 0 fH) (varD 1)) [.ob p Cl (StE (one n row) held), .im (.int (g : Nat)), .ow 0 RW, .ow 0 ((woG held g).map fun r => L1 r), .no] = .ok ((held.getD g []).map PyData.int) := by
    have f3 := fld_ok (Cl := Cl) (p := p) (i := 0) (ρ := [.ob p Cl (StE (one n row) held), .im (.int (g : Nat)), .ow 0 RW, .ow 0 ((woG held g).map fun r => L1 r), .no]) rfl (look_h (one n row) held)
    have c := ix_ok (b := varD 1) (r := .im (L1 (held.getD g []))) f3 rfl (by show ixF (.im (LL held)) _ = _; rw [ixF_1, gd]; rfl)
    unfold itD
    rw [c]
    rfl
  have HE : ∀ (H : List (List Int)) (x : Ent), (x = .ow 0 (H.map fun r => L1 r) ∨ x = .ow 1 (T2 H)) → ∀ (ρ : Z.Env) (i : Nat), ρ[i]? = some x → ∃ r, varD i ρ = .ok r ∧ r.dat = LL H := fun H x hx ρ i h => by
    rcases hx with rfl | rfl
    · exact ⟨.ro 0 (H.map fun r => L1 r), (congrArg varE h).trans rfl, e_datr0 _⟩
    · exact ⟨.ro 1 (T2 H), (congrArg varE h).trans rfl, dat_T2 H⟩
  obtain ⟨ρ', w6, x, y4, hx, rfl⟩ := for_nm (j := 4) (s := itD (ixD (fldD Cl 0 fH) (varD 1))) (body := asgD 3 (callD f_awarded (consA (varD 2) (consA (varD 3) (consA (varD 4) nilA))))) (ρ := [.ob p Cl (StE (one n row) held), .im (.int (g : Nat)), .ow 0 RW, .ow 0 ((woG held g).map fun r => L1 r), .no]) (fun i ρ => ∃ x y4, (x = .ow 0 ((putO row (woG held g) ((held.getD g []).take i)).map fun r => L1 r) ∨ x = .ow 1 (T2 (putO row (woG held g) ((held.getD g []).take i)))) ∧ ρ = [.ob p Cl (StE (one n row) held), .im (.int (g : Nat)), .ow 0 RW, x, y4]) (held.getD g []) PyData.int si ⟨_, _, .inl rfl, rfl⟩ (by
    rintro i hi ρ ⟨x, y4, hx, rfl⟩
    have Q := P.at (row := row) (by omega) i (by omega)
    rw [List.drop_eq_getElem_cons hi] at Q
    have e : (held.getD g []).take (i + 1) = (held.getD g []).take i ++ [(held.getD g [])[i]] := by
      rw [List.take_add_one, List.getElem?_eq_getElem hi]
      rfl
    rw [e, putO_snoc]
    generalize putO row (woG held g) ((held.getD g []).take i) = Y at *
    generalize (held.getD g [])[i] = t at *
    have aw := (one_award W2 Q).2
    obtain ⟨r3, v3, d3⟩ := HE Y x hx [.ob p Cl (StE (one n row) held), .im (.int (g : Nat)), .ow 0 RW, x, .im (.int t)] 3 rfl
    show Stp _ (asgD 3 _ [.ob p Cl (StE (one n row) held), .im (.int (g : Nat)), .ow 0 RW, x, .im (.int t)])
    have q : asgD 3 (callD f_awarded (consA (varD 2) (consA (varD 3) (consA (varD 4) nilA)))) [.ob p Cl (StE (one n row) held), .im (.int (g : Nat)), .ow 0 RW, x, .im (.int t)] = .nx [.ob p Cl (StE (one n row) held), .im (.int (g : Nat)), .ow 0 RW, .ow 1 (T2 (gave Y (toOf row Y) t)), .im (.int t)] := by
      unfold asgD
      rw [call3 (a := varD 2) (c := varD 4) (r1 := .ro 0 RW) (r3 := .im (.int t)) rfl v3 rfl (by rw [e_datr0, ← hRW]) d3 rfl aw (flat_T2 _)]
      rfl
    rw [q]
    exact stp_nx ⟨_, _, .inr rfl, rfl⟩)
  rw [List.take_length] at hx
  generalize putO row (woG held g) (held.getD g []) = Y at *
  have z2 : frzD 2 [.ob p Cl (StE (one n row) held), .im (.int (g : Nat)), .ow 0 RW, x, y4] = .nx [.ob p Cl (StE (one n row) held), .im (.int (g : Nat)), .im (LL (one (n - 1) row)), x, y4] := by
    rw [frz0 (l := RW) rfl, ← hRW]
    rfl
  have q8 : setFD Cl 0 fR (varD 2) [.ob p Cl (StE (one n row) held), .im (.int (g : Nat)), .im (LL (one (n - 1) row)), x, y4] = .nx [.ob p Cl (StE (one (n - 1) row) held), .im (.int (g : Nat)), .im (LL (one (n - 1) row)), x, y4] := by
    have q := setF_ok (Cl := Cl) (p := p) (i := 0) (f := fR) (e := varD 2) (r := .im (LL (one (n - 1) row))) (fs := StE (one n row) held) (ρ := [.ob p Cl (StE (one n row) held), .im (.int (g : Nat)), .im (LL (one (n - 1) row)), x, y4]) rfl rfl rfl (by simp [StE])
    rw [set_r] at q
    exact q
  have z3 : frzD 3 [.ob p Cl (StE (one (n - 1) row) held), .im (.int (g : Nat)), .im (LL (one (n - 1) row)), x, y4] = .nx [.ob p Cl (StE (one (n - 1) row) held), .im (.int (g : Nat)), .im (LL (one (n - 1) row)), .im (LL Y), y4] := by
    rcases hx with rfl | rfl
    · rw [frz0 (l := Y.map fun r => L1 r) rfl]
      rfl
    · show SO.nx [_, _, _, .im (Z.Ty.dat 2 (T2 Y)), _] = _
      rw [dat_T2]
  have q9 : setFD Cl 0 fH (varD 3) [.ob p Cl (StE (one (n - 1) row) held), .im (.int (g : Nat)), .im (LL (one (n - 1) row)), .im (LL Y), y4] = .nx [.ob p Cl (StE (one (n - 1) row) Y), .im (.int (g : Nat)), .im (LL (one (n - 1) row)), .im (LL Y), y4] := by
    have q := setF_ok (Cl := Cl) (p := p) (i := 0) (f := fH) (e := varD 3) (r := .im (LL Y)) (fs := StE (one (n - 1) row) held) (ρ := [.ob p Cl (StE (one (n - 1) row) held), .im (.int (g : Nat)), .im (LL (one (n - 1) row)), .im (LL Y), y4]) rfl rfl rfl (by simp [StE])
    rw [set_h] at q
    exact q
  subst hRW
  refine (congrArg (outO p Cl) ((seq_of q1).trans ((seq_iff t3).trans ((seq_of rfl).trans ((seq_of q4).trans ((seq_of q5).trans ((seq_of w6).trans ((seq_of z2).trans ((seq_of q8).trans ((seq_of z3).trans q9)))))))))).trans outO_nx
/-! #### maths: call15 -/
theorem call1 {f : List PD → Out R} {a : ED} {ρ : Z.Env} {r1 r : R} {d1 : PD} (h1 : a ρ = .ok r1) (q1 : r1.dat = d1) (hf : f [d1] = .ok r) (hfl : r.flat = true) : callD f (consA a nilA) ρ = .ok r := by
  unfold callD
  simp only [consA, nilA, h1, bind_ok, List.map_cons, List.map_nil, R.fz_dat, q1, hf]
  simp [hfl]
theorem tst_ok {e : ED} {ρ : Z.Env} {b : Bool} (h : e ρ = .ok (.im (.bool b))) : tstD e ρ = .ok b := by
  unfold tstD
  rw [h]
  rfl
theorem and2_ok {a b : TD} {ρ : Z.Env} {x y : Bool} (h1 : a ρ = .ok x) (h2 : b ρ = .ok y) : andT a b ρ = .ok (x && y) := by
  unfold andT
  rw [h1, bind_ok]
  cases x with
  | true => simp [h2]
  | false => rfl
/-! #### maths: moved15 -/
theorem at_mixed (c k : Int) : ∃ z, f__law_mixed [.int c, .int k] = .ok (.im (.int z)) := by
  refine ⟨(c + 7919 * k + 17) * 48271 % 2147483647, ?_⟩
  unfold f__law_mixed
  rw [den_eq]
  simp [d__law_mixed]
def worthF (x : Int) : Int := if x % 4 = 0 then x / 4 % 1000001 else if x % 4 = 1 then 1000000 - x / 4 % 3 else if x % 4 = 2 then x / 4 % 7 else x / 4 % 40
theorem lw_eq (x : Int) : f__law_worth [.int x] = .ok (.im (.int (worthF x))) := by
  have c : x % 4 = 0 ∨ x % 4 = 1 ∨ x % 4 = 2 ∨ x % 4 = 3 := by omega
  unfold f__law_worth
  rw [den_eq]
  rcases c with c | c | c | c <;> simp [d__law_worth, worthF, c, atI, ixN, dat_one]
theorem worthF_in (x : Int) : 0 ≤ worthF x ∧ worthF x < 1000001 := by
  unfold worthF
  repeat' split
  all_goals omega
theorem bin_ok {f : PD → PD → Option PD} {a : EX} {b : ED} {ρ ρ' : Z.Env} {r1 r2 : R} {d1 d2 d : PD} (h1 : a ρ = .ok r1 ρ') (h2 : b ρ' = .ok r2) (q1 : r1.dat = d1) (q2 : r2.dat = d2) (hf : f d1 d2 = some d) : binX f a b ρ = .ok (.im d) ρ' := by
  unfold binX
  rw [h1]
  simp only [h2, q1, q2, hf]
theorem tstX_ok {a : EX} {ρ ρ' : Z.Env} {b : Bool} (h : a ρ = .ok (.im (.bool b)) ρ') : tstX a ρ = .ok b ρ' := by
  unfold tstX
  rw [h]
theorem ifX_f {t : TX} {a b : SD} {ρ ρ' : Z.Env} (h : t ρ = .ok false ρ') : ifX t a b ρ = b ρ' := by
  unfold ifX
  rw [h]
theorem tup2_ok {a b : ED} {ρ : Z.Env} {r1 r2 : R} {d1 d2 : PD} (h1 : a ρ = .ok r1) (h2 : b ρ = .ok r2) (z1 : r1.fz = .im d1) (z2 : r2.fz = .im d2) : tupD (consA a (consA b nilA)) ρ = .ok (.im (.tuple [d1, d2])) := by
  unfold tupD
  simp only [consA, nilA, h1, h2, bind_ok, z1, z2]
  rfl
theorem lst1_ok {a : ED} {ρ : Z.Env} {r : R} {d : PD} (h : a ρ = .ok r) (z : r.fz = .im d) : lstD (consA a nilA) ρ = .ok (.fr 0 ([d] : List PD)) := by
  unfold lstD
  simp only [consA, nilA, h, bind_ok, z]
  rfl
theorem cons1_ok {a : ED} {ρ : Z.Env} {r : R} (h : a ρ = .ok r) : consA a nilA ρ = .ok [r.fz] := by
  simp only [consA, nilA, h, bind_ok]
theorem fz_ok {e : ED} {ρ : Z.Env} {l : List PD} (h : e ρ = .ok (.fr 0 l)) : fzD e ρ = .ok (.im (.list l)) := by
  unfold fzD
  rw [h, bind_ok, e_fzf0]
theorem asg_im {i : Nat} {e : ED} {ρ : Z.Env} {d : PD} (h : e ρ = .ok (.im d)) : asgD i e ρ = .nx (ρ.set i (.im d)) := by
  unfold asgD
  rw [h]
  rfl
theorem rep_ok {a b : ED} {ρ : Z.Env} {l : List PD} {k : Int} (h1 : a ρ = .ok (.fr 0 l)) (h2 : b ρ = .ok (.im (.int k))) (h : -1000 ≤ k ∧ k ≤ 1000 ∧ l.length ≤ 100) : repD a b ρ = .ok (.fr 0 (repL k.toNat l)) := by
  unfold repD
  rw [h1, bind_ok, h2, bind_ok]
  simp only [kids_fr0, e_dat1]
  rw [if_pos h]
theorem rep_w (n : Nat) (w : Int) : repL n ([.int w] : List PD) = (List.replicate n w).map PyData.int := by
  unfold repL
  induction n with
  | zero => rfl
  | succ k ih =>
    rw [List.replicate_succ, List.replicate_succ, List.flatten_cons, List.map_cons, ih]
    rfl
structure I15 (n m : Nat) (row : List Int) (held : List (List Int)) : Prop where
  W : WfT (one n row) m
  S : WfS m held
  hl : held.length = n
  m14 : m ≤ 14
theorem I15.h1 {n m : Nat} {row : List Int} {held : List (List Int)} (I : I15 n m row held) : 1 ≤ n ∧ n ≤ 8 := by
  have a := I.W.h1
  have b := I.W.h8
  rw [one_len] at a b
  exact ⟨a, b⟩
theorem I15.hr {n m : Nat} {row : List Int} {held : List (List Int)} (I : I15 n m row held) : row.length = m := I.W.len row (by have := I.h1; simp [one]; omega)
theorem I15.hv {n m : Nat} {row : List Int} {held : List (List Int)} (I : I15 n m row held) : ∀ v ∈ row, 0 ≤ v ∧ v < 1000001 := I.W.num row (by have := I.h1; simp [one]; omega)
theorem WfS.more {m m' : Nat} {held : List (List Int)} (S : WfS m held) (h : m ≤ m') : WfS m' held := ⟨fun s hs v hv => by have := S.num s hs v hv; omega, S.up, S.nd⟩
theorem moved_eq (Cl p : Addr) {n m : Nat} {row : List Int} {held : List (List Int)} (cell : Int) (I : I15 n m row held) : ∃ n' m' row' held', I15 n' m' row' held' ∧
    f__law_moved Cl p (StE (one n row) held) [.int cell, L1 row, LL held] = .ok (.im (.tuple [L1 row', LL held'])) (StE (one n' row') held') := by
  obtain ⟨h1, h8⟩ := I.h1
  have hr := I.hr
  have hv := I.hv
  have hl := I.hl
  have m14 := I.m14
  obtain ⟨z, hz⟩ := at_mixed cell 1
  obtain ⟨N, hN⟩ : ∃ N : Int, z / 3 = N := ⟨_, rfl⟩
  have q4 : asgD 4 (binR divI (callD f__law_mixed (consA (varD 1) (consA (cD (.int 1)) nilA))) (cD (.int 3))) [.ob p Cl (StE (one n row) held), .im (.int cell), .im (L1 row), .im (LL held), .no, .no, .no, .no] = .nx [.ob p Cl (StE (one n row) held), .im (.int cell), .im (L1 row), .im (LL held), .im (.int N), .no, .no, .no] := by
    have c := cmp_ok (f := divI) (b := cD (.int 3)) (r2 := .im (.int 3)) (d := .int N) (call_i2 (a := varD 1) (b := cD (.int 1)) (ρ := [.ob p Cl (StE (one n row) held), .im (.int cell), .im (L1 row), .im (LL held), .no, .no, .no, .no]) rfl rfl hz) rfl (e_dat1 _) rfl (by rw [← hN]; simp)
    unfold asgD
    rw [c]
    rfl
  have q5 : asgD 5 (cbD lenF (consA (varD 3) nilA)) [.ob p Cl (StE (one n row) held), .im (.int cell), .im (L1 row), .im (LL held), .im (.int N), .no, .no, .no] = .nx [.ob p Cl (StE (one n row) held), .im (.int cell), .im (L1 row), .im (LL held), .im (.int N), .im (.int (n : Nat)), .no, .no] := by
    have c := len_ok (a := varD 3) (r := .im (LL held)) (ρ := [.ob p Cl (StE (one n row) held), .im (.int cell), .im (L1 row), .im (LL held), .im (.int N), .no, .no, .no]) rfl rfl
    rw [List.length_map, hl] at c
    unfold asgD
    rw [c]
    rfl
  have start : ∀ o : SO, ∀ B, d__law_moved Cl = seqD (asgD 4 (binR divI (callD f__law_mixed (consA (varD 1) (consA (cD (.int 1)) nilA))) (cD (.int 3)))) (seqD (asgD 5 (cbD lenF (consA (varD 3) nilA))) B) → B [.ob p Cl (StE (one n row) held), .im (.int cell), .im (L1 row), .im (LL held), .im (.int N), .im (.int (n : Nat)), .no, .no] = o → f__law_moved Cl p (StE (one n row) held) [.int cell, L1 row, LL held] = outO p Cl o := fun o B e h => by
    show outO p Cl (d__law_moved Cl [.ob p Cl (StE (one n row) held), .im (.int cell), .im (L1 row), .im (LL held), .no, .no, .no, .no]) = _
    rw [e, seq_of q4, seq_of q5, h]
  have l2 : cbD lenF (consA (varD 2) nilA) [.ob p Cl (StE (one n row) held), .im (.int cell), .im (L1 row), .im (LL held), .im (.int N), .im (.int (n : Nat)), .no, .no] = .ok (.im (.int (m : Nat))) := by
    have c := len_ok (a := varD 2) (r := .im (L1 row)) (ρ := [.ob p Cl (StE (one n row) held), .im (.int cell), .im (L1 row), .im (LL held), .im (.int N), .im (.int (n : Nat)), .no, .no]) rfl rfl
    rw [List.length_map, hr] at c
    exact c
  have a1 : ∀ k : Int, tstD (binR ltI (binR modI (varD 1) (cD (.int 8))) (cD (.int k))) [.ob p Cl (StE (one n row) held), .im (.int cell), .im (L1 row), .im (LL held), .im (.int N), .im (.int (n : Nat)), .no, .no] = .ok (decide (cell % 8 < k)) := fun k => by simp
  have a2 : tstD (binR ltI (cbD lenF (consA (varD 2) nilA)) (cD (.int 14))) [.ob p Cl (StE (one n row) held), .im (.int cell), .im (L1 row), .im (LL held), .im (.int N), .im (.int (n : Nat)), .no, .no] = .ok (decide ((m : Int) < 14)) := by
    exact tst_ok (cmp_ok (f := ltI) (b := cD (.int 14)) (r2 := .im (.int 14)) l2 rfl (e_dat1 _) rfl rfl)
  have a3 : tstD (binR gtI (varD 5) (cD (.int 1))) [.ob p Cl (StE (one n row) held), .im (.int cell), .im (L1 row), .im (LL held), .im (.int N), .im (.int (n : Nat)), .no, .no] = .ok (decide ((1 : Int) < n)) := by simp
  have a4 : tstD (binR ltI (varD 5) (cD (.int 8))) [.ob p Cl (StE (one n row) held), .im (.int cell), .im (L1 row), .im (LL held), .im (.int N), .im (.int (n : Nat)), .no, .no] = .ok (decide ((n : Int) < 8)) := by simp
  have b1 := and2_ok (a1 5) a2
  have b2 := and2_ok (a1 7) a3
  by_cases c1 : (decide (cell % 8 < 5) && decide ((m : Int) < 14)) = true
  · -- a thing comes
    rw [c1] at b1
    have hm : (m : Int) < 14 := of_decide_eq_true (Bool.and_eq_true_iff.mp c1).2
    have hw := worthF_in N
    generalize hwf : worthF N = w at *
    have lw : f__law_worth [.int N] = .ok (.im (.int w)) := by rw [← hwf]; exact lw_eq N
    have W2 : WfT (one n (row ++ [w])) (m + 1) := one_wf h1 h8 (by omega) (by simp [hr]) (fun v h => by
      rcases List.mem_append.mp h with h | h
      · exact hv v h
      · rw [List.mem_singleton.mp h]; exact hw)
    have P : OkP (m + 1) n held [(m : Int)] := ⟨I.S.more (by omega), hl, by simp, fun t ht => by rw [List.mem_singleton.mp ht]; omega, fun t ht s hs hv => by
      rw [List.mem_singleton.mp ht] at hv
      have := I.S.num s hs _ hv
      omega⟩
    have ce := come_eq Cl p I.W (by omega) hw P
    have pu := lput_eq W2 P
    have PA := P.all (row := row ++ [w]) h1
    have eg : putO (row ++ [w]) held [(m : Int)] = gave held (toOf (row ++ [w]) held) (m : Int) := rfl
    rw [← eg] at ce
    generalize putO (row ++ [w]) held [(m : Int)] = Y at *
    refine ⟨n, m + 1, row ++ [w], Y, ⟨W2, PA.1, PA.2, by omega⟩, (start _ _ rfl ?_).trans (outO_rv (ρ := [.im (.int cell), .im (L1 (row ++ [w])), .im (LL held), .im (.int N), .im (.int (n : Nat)), .im (L1 (List.replicate n w)), .no]))⟩
    have wo : ∀ ρ : Z.Env, varD 4 ρ = .ok (.im (.int N)) → lstD (consA (callD f__law_worth (consA (varD 4) nilA)) nilA) ρ = .ok (.fr 0 ([.int w] : List PD)) := fun ρ h => by
      exact lst1_ok (call1 h rfl lw rfl) rfl
    have q6 : asgD 6 (fzD (repD (lstD (consA (callD f__law_worth (consA (varD 4) nilA)) nilA)) (varD 5))) [.ob p Cl (StE (one n row) held), .im (.int cell), .im (L1 row), .im (LL held), .im (.int N), .im (.int (n : Nat)), .no, .no] = .nx [.ob p Cl (StE (one n row) held), .im (.int cell), .im (L1 row), .im (LL held), .im (.int N), .im (.int (n : Nat)), .im (L1 (List.replicate n w)), .no] := by
      have c0 := wo [.ob p Cl (StE (one n row) held), .im (.int cell), .im (L1 row), .im (LL held), .im (.int N), .im (.int (n : Nat)), .no, .no] rfl
      have e := rep_w n w
      have c : repD (lstD (consA (callD f__law_worth (consA (varD 4) nilA)) nilA)) (varD 5) [.ob p Cl (StE (one n row) held), .im (.int cell), .im (L1 row), .im (LL held), .im (.int N), .im (.int (n : Nat)), .no, .no] = .ok (.fr 0 ((List.replicate n w).map PyData.int)) := by
        have r := rep_ok (b := varD 5) (k := (n : Int)) c0 rfl ⟨by omega, by omega, by simp⟩
        rw [Int.toNat_natCast, e] at r
        exact r
      exact asg_im (fz_ok c)
    have l6 : cbD lenF (consA (varD 2) nilA) [.ob p Cl (StE (one n (row ++ [w])) Y), .im (.int cell), .im (L1 row), .im (LL held), .im (.int N), .im (.int (n : Nat)), .im (L1 (List.replicate n w)), .no] = .ok (.im (.int (m : Nat))) := by
      have c := len_ok (a := varD 2) (r := .im (L1 row)) (ρ := [.ob p Cl (StE (one n (row ++ [w])) Y), .im (.int cell), .im (L1 row), .im (LL held), .im (.int N), .im (.int (n : Nat)), .im (L1 (List.replicate n w)), .no]) rfl rfl
      rw [List.length_map, hr] at c
      exact c
    have k1 : callMt Cl "come" (f_Estate_come Cl) 0 (consA (varD 6) nilA) [.ob p Cl (StE (one n row) held), .im (.int cell), .im (L1 row), .im (LL held), .im (.int N), .im (.int (n : Nat)), .im (L1 (List.replicate n w)), .no] = .ok (.im (.int (m : Nat))) [.ob p Cl (StE (one n (row ++ [w])) Y), .im (.int cell), .im (L1 row), .im (LL held), .im (.int N), .im (.int (n : Nat)), .im (L1 (List.replicate n w)), .no] :=
      callO_im (ds := [L1 (List.replicate n w)]) rfl (look_m _ _ _ (by decide +kernel) (by decide +kernel)) rfl rfl ce
    have t7 := tstX_ok (bin_ok (f := neF) k1 l6 (e_dat1 _) (e_dat1 _) (neF_int _ _))
    have dn : (!decide ((m : Int) = (m : Int))) = false := by simp
    have q8 : asgD 2 (fzD (addD (varD 2) (lstD (consA (callD f__law_worth (consA (varD 4) nilA)) nilA)))) [.ob p Cl (StE (one n (row ++ [w])) Y), .im (.int cell), .im (L1 row), .im (LL held), .im (.int N), .im (.int (n : Nat)), .im (L1 (List.replicate n w)), .no] = .nx [.ob p Cl (StE (one n (row ++ [w])) Y), .im (.int cell), .im (L1 (row ++ [w])), .im (LL held), .im (.int N), .im (.int (n : Nat)), .im (L1 (List.replicate n w)), .no] := by
      have c0 := wo [.ob p Cl (StE (one n (row ++ [w])) Y), .im (.int cell), .im (L1 row), .im (LL held), .im (.int N), .im (.int (n : Nat)), .im (L1 (List.replicate n w)), .no] rfl
      have ad := addD_ok (a := varD 2) (r1 := .im (L1 row)) rfl c0 (e_dat1 _) (e_datf0 _) rfl (kids_fr0 _) (by rw [List.length_map]; show _ + 1 ≤ _; omega)
      have e : row.map PyData.int ++ ([.int w] : List PD) = (row ++ [w]).map PyData.int := by simp
      have ad' := ad.trans (congrArg (fun z : List PD => Out.ok (R.fr 0 z)) e)
      exact asg_im (fz_ok ad')
    have l9 : lstD (consA (binR subI (cbD lenF (consA (varD 2) nilA)) (cD (.int 1))) nilA) [.ob p Cl (StE (one n (row ++ [w])) Y), .im (.int cell), .im (L1 (row ++ [w])), .im (LL held), .im (.int N), .im (.int (n : Nat)), .im (L1 (List.replicate n w)), .no] = .ok (.fr 0 (T1 [(m : Int)])) := by
      have c := len_ok (a := varD 2) (r := .im (L1 (row ++ [w]))) (ρ := [.ob p Cl (StE (one n (row ++ [w])) Y), .im (.int cell), .im (L1 (row ++ [w])), .im (LL held), .im (.int N), .im (.int (n : Nat)), .im (L1 (List.replicate n w)), .no]) rfl rfl
      rw [List.length_map, List.length_append, hr] at c
      have c2 := cmp_ok (f := subI) (b := cD (.int 1)) (r2 := .im (.int 1)) (d := .int (m : Int)) c rfl (e_dat1 _) rfl (by
        show subI (.int _) (.int 1) = _
        rw [e_sub]
        congr 2
        simp)
      exact lst1_ok c2 rfl
    have k9 := call3 (a := varD 2) (b := varD 3) (r1 := .im (L1 (row ++ [w]))) (r2 := .im (LL held)) rfl rfl l9 rfl rfl (e_datf0 _) pu (flat_T2 _)
    have k10 := retX_ok (pure_im (tup2_ok (a := varD 2) (r1 := .im (L1 (row ++ [w]))) rfl k9 rfl (T2_fz _)))
    rw [seq_ift b1]
    refine seq_cut ?_
    rw [seq_of q6]
    rw [dn] at t7
    refine (seq_of ((ifX_f t7).trans rfl)).trans ?_
    rw [seq_of q8]
    exact k10
  · have c1' := Bool.eq_false_iff.mpr c1
    rw [c1'] at b1
    by_cases c2 : (decide (cell % 8 < 7) && decide ((1 : Int) < n)) = true
    · -- an heir goes
      rw [c2] at b2
      have hn : (1 : Int) < n := of_decide_eq_true (Bool.and_eq_true_iff.mp c2).2
      obtain ⟨g, hg⟩ : ∃ g : Nat, N % (n : Int) = g := ⟨(N % (n : Int)).toNat, by have := Int.emod_nonneg N (show (n : Int) ≠ 0 by omega); omega⟩
      have gl : g < n := by have := Int.emod_lt_of_pos N (show (0 : Int) < n by omega); omega
      have W2 : WfT (one (n - 1) row) m := one_wf (by omega) (by omega) (by omega) hr hv
      have P := go_ok I.S hl gl
      have ge := go_eq Cl p I.W I.S hl gl (by omega)
      have pu := lput_eq W2 P
      have PA := P.all (row := row) (by omega)
      generalize hY : putO row (woG held g) (held.getD g []) = Y at *
      refine ⟨n - 1, m, row, Y, ⟨W2, PA.1, PA.2, m14⟩, (start _ _ rfl ?_).trans (outO_rv (ρ := [.im (.int cell), .im (L1 row), .im (LL held), .im (.int N), .im (.int (n : Nat)), .no, .im (.int (g : Nat))]))⟩
      have q7 : asgD 7 (binR modI (varD 4) (varD 5)) [.ob p Cl (StE (one n row) held), .im (.int cell), .im (L1 row), .im (LL held), .im (.int N), .im (.int (n : Nat)), .no, .no] = .nx [.ob p Cl (StE (one n row) held), .im (.int cell), .im (L1 row), .im (LL held), .im (.int N), .im (.int (n : Nat)), .no, .im (.int (g : Nat))] := by
        have hp : (0 : Int) < n := by omega
        have hp' : 0 < n := by omega
        have mo : modI (.int N) (.int (n : Nat)) = some (.int (g : Int)) := by
          rw [← hg]
          simp [hp, hp']
        unfold asgD
        rw [cmp_ok (f := modI) (a := varD 4) (b := varD 5) (r1 := .im (.int N)) (r2 := .im (.int (n : Nat))) rfl rfl rfl rfl mo]
        rfl
      have k1 : callMt Cl "go" (f_Estate_go Cl) 0 (consA (varD 7) nilA) [.ob p Cl (StE (one n row) held), .im (.int cell), .im (L1 row), .im (LL held), .im (.int N), .im (.int (n : Nat)), .no, .im (.int (g : Nat))] = .ok (.im .none) [.ob p Cl (StE (one (n - 1) row) Y), .im (.int cell), .im (L1 row), .im (LL held), .im (.int N), .im (.int (n : Nat)), .no, .im (.int (g : Nat))] :=
        callO_im (ds := [.int (g : Nat)]) rfl (look_m _ _ _ (by decide +kernel) (by decide +kernel)) rfl rfl ge
      have t7 := tstX_ok (bin_ok (f := nNF) (b := cD .none) (r2 := .im .none) (d := .bool false) k1 rfl (e_dat1 _) rfl rfl)
      have k2 := cut_ok (a := varD 3) (e := varD 7) (g := g) (l := held) (ρ := [.ob p Cl (StE (one (n - 1) row) Y), .im (.int cell), .im (L1 row), .im (LL held), .im (.int N), .im (.int (n : Nat)), .no, .im (.int (g : Nat))]) rfl rfl (by omega) (by omega)
      have gd := getDT (D := held) (k := g) (by omega)
      have k3 : ixD (varD 3) (varD 7) [.ob p Cl (StE (one (n - 1) row) Y), .im (.int cell), .im (L1 row), .im (LL held), .im (.int N), .im (.int (n : Nat)), .no, .im (.int (g : Nat))] = .ok (.im (L1 (held.getD g []))) := ix_ok (r1 := .im (LL held)) rfl rfl (by show ixF (.im (LL held)) _ = _; rw [ixF_1, gd]; rfl)
      have k9 := call3 (a := varD 2) (r1 := .im (L1 row)) rfl k2 k3 rfl (e_datf0 _) (e_dat1 _) pu (flat_T2 _)
      have k10 := retX_ok (pure_im (tup2_ok (a := varD 2) (r1 := .im (L1 row)) rfl k9 rfl (T2_fz _)))
      rw [seq_iff b1, seq_of rfl, seq_ift b2]
      refine seq_cut ?_
      rw [seq_of q7]
      refine (seq_of ((ifX_f t7).trans rfl)).trans ?_
      exact k10
    · have c2' := Bool.eq_false_iff.mpr c2
      rw [c2'] at b2
      by_cases c3 : (n : Int) < 8
      · -- an heir joins
        rw [decide_eq_true c3] at a4
        have W2 : WfT (one (n + 1) row) m := one_wf (by omega) (by omega) (by omega) hr hv
        have P := empty_ok m (n + 1)
        have je := join_eq Cl p (held := held) I.W (by omega)
        have pu := lput_eq W2 P
        have PA := P.all (row := row) (by omega)
        generalize putO row (emptyS (n + 1)) (rangeL 0 (m : Int)) = Y at *
        refine ⟨n + 1, m, row, Y, ⟨W2, PA.1, PA.2, m14⟩, (start _ _ rfl ?_).trans (outO_rv (ρ := [.im (.int cell), .im (L1 row), .im (LL held), .im (.int N), .im (.int (n : Nat)), .no, .no]))⟩
        have c0 : consA (listD (consA (varD 2) nilA)) nilA [.ob p Cl (StE (one n row) held), .im (.int cell), .im (L1 row), .im (LL held), .im (.int N), .im (.int (n : Nat)), .no, .no] = .ok [.im (L1 row)] := by
          have : listD (consA (varD 2) nilA) [.ob p Cl (StE (one n row) held), .im (.int cell), .im (L1 row), .im (LL held), .im (.int N), .im (.int (n : Nat)), .no, .no] = .ok (.fr 0 (T1 row)) := by simp
          exact (cons1_ok this).trans (by rw [e_fzf0])
        have k1 : callMt Cl "join" (f_Estate_join Cl) 0 (consA (listD (consA (varD 2) nilA)) nilA) [.ob p Cl (StE (one n row) held), .im (.int cell), .im (L1 row), .im (LL held), .im (.int N), .im (.int (n : Nat)), .no, .no] = .ok (.im (.int (n : Nat))) [.ob p Cl (StE (one (n + 1) row) Y), .im (.int cell), .im (L1 row), .im (LL held), .im (.int N), .im (.int (n : Nat)), .no, .no] :=
          callO_im (ds := [L1 row]) rfl (look_m _ _ _ (by decide +kernel) (by decide +kernel)) c0 rfl je
        have t7 := tstX_ok (bin_ok (f := neF) (b := varD 5) (r2 := .im (.int (n : Nat))) k1 rfl (e_dat1 _) rfl (neF_int _ _))
        have dn : (!decide ((n : Int) = (n : Int))) = false := by simp
        rw [dn] at t7
        have k2 := nils_ok (s := rg1D (addD (varD 5) (cD (.int 1)))) (n := n + 1) (ρ := [.ob p Cl (StE (one (n + 1) row) Y), .im (.int cell), .im (L1 row), .im (LL held), .im (.int N), .im (.int (n : Nat)), .no, .no]) 7 (by omega) (by
          have b : (-100000 : Int) ≤ ((n + 1 : Nat) : Int) ∧ ((n + 1 : Nat) : Int) ≤ 100000 := by omega
          have cad : addD (varD 5) (cD (.int 1)) [.ob p Cl (StE (one (n + 1) row) Y), .im (.int cell), .im (L1 row), .im (LL held), .im (.int N), .im (.int (n : Nat)), .no, .no] = .ok (.im (.int ((n + 1 : Nat) : Int))) := by simp [addD]
          have rg : (rangeL 0 ((n + 1 : Nat) : Int)).map PyData.int = (List.range (n + 1)).map fun (i : Nat) => PyData.int (i : Int) := rg_all (n + 1)
          unfold rg1D
          rw [cad, bind_ok]
          simp only [e_dat1]
          rw [if_pos b, rg])
        have k3 : lrgD (cbD lenF (consA (varD 2) nilA)) [.ob p Cl (StE (one (n + 1) row) Y), .im (.int cell), .im (L1 row), .im (LL held), .im (.int N), .im (.int (n : Nat)), .no, .no] = .ok (.fr 0 (T1 (rangeL 0 (m : Int)))) := by
          have c := len_ok (a := varD 2) (r := .im (L1 row)) (ρ := [.ob p Cl (StE (one (n + 1) row) Y), .im (.int cell), .im (L1 row), .im (LL held), .im (.int N), .im (.int (n : Nat)), .no, .no]) rfl rfl
          rw [List.length_map, hr] at c
          have b : (-100000 : Int) ≤ (m : Int) ∧ (m : Int) ≤ 100000 := by omega
          unfold lrgD
          rw [c, bind_ok]
          simp only [e_dat1]
          rw [if_pos b]
        have k9 := call3 (a := varD 2) (r1 := .im (L1 row)) rfl k2 k3 rfl (e_datf0 _) (e_datf0 _) pu (flat_T2 _)
        have k10 := retX_ok (pure_im (tup2_ok (a := varD 2) (r1 := .im (L1 row)) rfl k9 rfl (T2_fz _)))
        rw [seq_iff b1, seq_of rfl, seq_iff b2, seq_of rfl, seq_ift a4]
        refine seq_cut ?_
        refine (seq_of ((ifX_f t7).trans rfl)).trans ?_
        exact k10
      · rw [decide_eq_false c3] at a4
        refine ⟨n, m, row, held, I, (start _ _ rfl ?_).trans (outO_rv (ρ := [.im (.int cell), .im (L1 row), .im (LL held), .im (.int N), .im (.int (n : Nat)), .no, .no]))⟩
        rw [seq_iff b1, seq_of rfl, seq_iff b2, seq_of rfl, seq_iff a4, seq_of rfl]
        exact retX_ok (pure_im (tup2_ok (a := varD 2) (b := varD 3) (r1 := .im (L1 row)) (r2 := .im (LL held)) rfl rfl rfl rfl))
/-! #### maths: wfo15 -/
theorem wf_out {held : List (List Int)} {m : Nat} {t : Int} (S : WfS m held) : WfS m (held.map fun s => s.filter fun x => !decide (x = t)) := by
  refine ⟨fun s hs v hv => ?_, fun s hs => ?_, ?_⟩
  · obtain ⟨q, hq, rfl⟩ := List.mem_map.mp hs
    exact S.num q hq v (List.mem_filter.mp hv).1
  · obtain ⟨q, hq, rfl⟩ := List.mem_map.mp hs
    exact (S.up q hq).filter _
  · have e : (held.map fun s => s.filter fun x => !decide (x = t)).flatten = held.flatten.filter fun x => !decide (x = t) := by
      rw [List.filter_flatten]
    rw [e]
    exact S.nd.filter _
/-! #### maths: ret15 -/
theorem ret_ok {e : ED} {ρ : Z.Env} {d : PD} (h : e ρ = .ok (.im d)) : retD e ρ = .rt (.im d) := by
  unfold retD
  rw [h]
  rfl
/-! #### maths: told15 -/
theorem looked_eq (Cl p : Addr) {n m : Nat} {row : List Int} {held : List (List Int)} (way : Int) (I : I15 n m row held) : f__law_looked Cl p (StE (one n row) held) [L1 row, LL held, .int way] = .ok (.im (.bool true)) (StE (one n row) held) := by
  obtain ⟨h1, h8⟩ := I.h1
  have hr := I.hr
  have hl := I.hl
  have m14 := I.m14
  have tb := table_eq Cl p (one n row) held (by rw [one_len]; omega)
  have sh := shares_eq Cl p (one n row) held (by omega)
  have T : ∀ x5 : Ent, tstX (binX neF (callMt Cl "table" (f_Estate_table Cl) 0 nilA) (lcD (itJ (varD 2)) [4] (.nm 4) yesT (varD 1))) [.ob p Cl (StE (one n row) held), .im (L1 row), .im (LL held), .im (.int way), .no, x5] = .ok false [.ob p Cl (StE (one n row) held), .im (L1 row), .im (LL held), .im (.int way), .no, x5] := fun x5 => by
    have k1 : callMt Cl "table" (f_Estate_table Cl) 0 nilA [.ob p Cl (StE (one n row) held), .im (L1 row), .im (LL held), .im (.int way), .no, x5] = .ok (.fr 0 ((one n row).map fun r => L1 r)) [.ob p Cl (StE (one n row) held), .im (L1 row), .im (LL held), .im (.int way), .no, x5] :=
      callO_fr (ds := []) rfl (look_m _ _ _ (by decide +kernel) (by decide +kernel)) rfl rfl tb
    have c := lcD_im (s := itJ (varD 2)) (vs := [4]) (k := .nm 4) (e := varD 1) (ρ := [.ob p Cl (StE (one n row) held), .im (L1 row), .im (LL held), .im (.int way), .no, x5]) held (fun r => L1 r) (fun _ => L1 row) rfl (by omega) (fun x hx => ⟨_, rfl, rfl⟩)
    have e : (@List.map (List Int) PD (fun _ => L1 row) held) = (one n row).map fun r => L1 r := by
      unfold one
      apply List.ext_getElem
      · simp [hl]
      · intro i h1 h2
        simp
    rw [e] at c
    have ne : neF (LL (one n row)) (LL (one n row)) = some (.bool false) := by rw [neF_LL]; simp
    exact tstX_ok (bin_ok (f := neF) k1 c (e_datf0 _) (e_datf0 _) ne)
  have S : ∀ x4 x5 : Ent, callMt Cl "shares" (f_Estate_shares Cl) 0 nilA [.ob p Cl (StE (one n row) held), .im (L1 row), .im (LL held), .im (.int way), x4, x5] = .ok (.fr 1 (T2 held)) [.ob p Cl (StE (one n row) held), .im (L1 row), .im (LL held), .im (.int way), x4, x5] := fun x4 x5 =>
    callO_fr (ds := []) rfl (look_m _ _ _ (by decide +kernel) (by decide +kernel)) rfl rfl sh
  have t1 : andX (pureT (tstD (binR eqF (varD 3) (cD (.int 1))))) (tstX (binX neF (callMt Cl "table" (f_Estate_table Cl) 0 nilA) (lcD (itJ (varD 2)) [4] (.nm 4) yesT (varD 1)))) [.ob p Cl (StE (one n row) held), .im (L1 row), .im (LL held), .im (.int way), .no, .no] = .ok false [.ob p Cl (StE (one n row) held), .im (L1 row), .im (LL held), .im (.int way), .no, .no] := by
    have a : tstD (binR eqF (varD 3) (cD (.int 1))) [.ob p Cl (StE (one n row) held), .im (L1 row), .im (LL held), .im (.int way), .no, .no] = .ok (decide (way = 1)) := tst_ok (cmp_ok (f := eqF) (a := varD 3) (b := cD (.int 1)) (r1 := .im (.int way)) (r2 := .im (.int 1)) rfl rfl rfl rfl (eqF_int _ _))
    unfold andX pureT
    rw [a]
    cases decide (way = 1) with
    | true => exact T .no
    | false => rfl
  have q2 : asgX 5 (callMt Cl "shares" (f_Estate_shares Cl) 0 nilA) [.ob p Cl (StE (one n row) held), .im (L1 row), .im (LL held), .im (.int way), .no, .no] = .nx [.ob p Cl (StE (one n row) held), .im (L1 row), .im (LL held), .im (.int way), .no, .ow 1 (T2 held)] := by
    unfold asgX
    rw [S]
    rfl
  have t3 : orX (pureT (tstD (binR neF (varD 5) (varD 2)))) (tstX (binX neF (callMt Cl "table" (f_Estate_table Cl) 0 nilA) (lcD (itJ (varD 2)) [4] (.nm 4) yesT (varD 1)))) [.ob p Cl (StE (one n row) held), .im (L1 row), .im (LL held), .im (.int way), .no, .ow 1 (T2 held)] = .ok false [.ob p Cl (StE (one n row) held), .im (L1 row), .im (LL held), .im (.int way), .no, .ow 1 (T2 held)] := by
    have ne : neF (LL held) (LL held) = some (.bool false) := by rw [neF_LL]; simp
    have a : tstD (binR neF (varD 5) (varD 2)) [.ob p Cl (StE (one n row) held), .im (L1 row), .im (LL held), .im (.int way), .no, .ow 1 (T2 held)] = .ok false := tst_ok (cmp_ok (f := neF) (a := varD 5) (b := varD 2) (r1 := .ro 1 (T2 held)) (r2 := .im (LL held)) rfl rfl (dat_T2 _) rfl ne)
    unfold orX pureT
    rw [a]
    exact T _
  have cnd : (∀ u ∈ T2 held, u.length ≤ 1000) ∧ 5 ≠ 4 ∧ 4 < ([.ob p Cl (StE (one n row) held), .im (L1 row), .im (LL held), .im (.int way), .no, .ow 1 (T2 held)] : List Ent).length := by
    refine ⟨fun u hu => ?_, by decide, by simp⟩
    obtain ⟨r, hr, rfl⟩ := List.mem_map.mp hu
    have := I.S.slen hr
    simp
    omega
  have q4 : ∃ L y, appAllD 5 4 (.int (-1)) [.ob p Cl (StE (one n row) held), .im (L1 row), .im (LL held), .im (.int way), .no, .ow 1 (T2 held)] = .nx [.ob p Cl (StE (one n row) held), .im (L1 row), .im (LL held), .im (.int way), y, .ow 1 L] := by
    refine ⟨@List.map (List PD) (List PD) (fun u => u ++ [PyData.int (-1)]) (T2 held), .no, ?_⟩
    unfold appAllD
    exact if_pos cnd
  obtain ⟨L, y, q4⟩ := q4
  have eq : eqF (LL held) (LL held) = some (.bool true) := by rw [eqF_LL]; simp
  have q5 := retX_ok (bin_ok (f := eqF) (b := varD 2) (r2 := .im (LL held)) (S y (.ow 1 L)) rfl (dat_T2 _) rfl eq)
  show outO p Cl (d__law_looked Cl [.ob p Cl (StE (one n row) held), .im (L1 row), .im (LL held), .im (.int way), .no, .no]) = _
  unfold d__law_looked
  refine (congrArg (outO p Cl) ((seq_of ((ifX_f t1).trans rfl)).trans ((seq_of q2).trans ((seq_of ((ifX_f t3).trans rfl)).trans ((seq_of q4).trans q5))))).trans outO_rv
theorem give_ne (t : Int) (a : Nat) : neF (.list [giveD t a]) (.list [giveD t a]) = some (.bool false) := by
  have s1 : shp (.list [giveD t a]) = true := by
    have : PyData.strOk (Str.ofString "give") = true := by decide +kernel
    simp [giveD, shp, noD, noDs, SeqAt.shaped, PyData.canLay0, PyData.canLayAll0, PyData.depth, PyData.depthAll, this]
  unfold giveD at s1 ⊢
  simp only [neF, s1, Bool.and_self, if_true, PyData.eqv, PyData.eqvAll]
  simp
theorem give_flat (t : Int) (a : Nat) : R.flat (.fr 0 ([giveD t a] : List PD)) = true := by
  refine (e_flf0 ([giveD t a] : List PD)).trans ?_
  rfl
theorem told_eq {n m : Nat} {row : List Int} {held : List (List Int)} (I : I15 n m row held) : f__law_told [L1 row, LL held] = .ok (.im (.bool true)) := by
  obtain ⟨h1, h8⟩ := I.h1
  have hr := I.hr
  have hl := I.hl
  have m14 := I.m14
  have W := I.W
  have de := one_dealt W
  have P0 := empty_ok m n
  have pu := lput_eq W P0
  obtain ⟨RW, hRW⟩ : ∃ RW : List PD, (one n row).map (fun r => L1 r) = RW := ⟨_, rfl⟩
  obtain ⟨EM, hEM⟩ : ∃ EM : List PD, (emptyS n).map (fun r => L1 r) = EM := ⟨_, rfl⟩
  have rows_ok : ∀ ρ : Z.Env, varD 0 (wipeE ρ [8]) = .ok (.im (L1 row)) → itJ (varD 1) ρ = .ok (held.map fun r => L1 r) → (∀ d : PD, varD 0 ((wipeE ρ [8]).set 8 (.im d)) = .ok (.im (L1 row))) → lcD (itJ (varD 1)) [8] (.nm 8) yesT (listD (consA (varD 0) nilA)) ρ = .ok (.fr 0 RW) := fun ρ _ h2 h3 => by
    have c := lcD_fil2 (s := itJ (varD 1)) (vs := [8]) (k := .nm 8) (t := yesT) (e := listD (consA (varD 0) nilA)) (ρ := ρ) held (fun r => L1 r) (fun _ => L1 row) (fun _ => true) h2 (by omega) (fun x hx => ⟨_, rfl, rfl, fun _ => ⟨.fr 0 (T1 row), by
      have := h3 (L1 x)
      unfold listD
      rw [cons1_ok this]
      rfl, e_fzf0 _⟩⟩)
    rw [filter_true] at c
    have e : (@List.map (List Int) PD (fun _ => L1 row) held) = RW := by
      rw [← hRW]
      unfold one
      apply List.ext_getElem
      · simp [hl]
      · intro i h1 h2
        simp
    rw [e] at c
    exact c
  generalize hD : putO row (emptyS n) (rangeL 0 (m : Int)) = D at *
  unfold f__law_told
  rw [den_eq]
  show fin (d__law_told [.im (L1 row), .im (LL held), .no, .no, .no, .no, .no, .no, .no, .no]) = _
  unfold d__law_told
  have q2 : asgD 2 (lcD (itJ (varD 1)) [8] (.nm 8) yesT (listD (consA (varD 0) nilA))) [.im (L1 row), .im (LL held), .no, .no, .no, .no, .no, .no, .no, .no] = .nx [.im (L1 row), .im (LL held), .ow 0 RW, .no, .no, .no, .no, .no, .no, .no] := by
    unfold asgD
    rw [rows_ok _ rfl rfl (fun d => rfl)]
    rfl
  have dRW : PyData.list RW = LL (one n row) := by rw [← hRW]
  have q3 : asgD 3 (lcD (itJ (varD 1)) [8] (.nm 8) yesT (lstD nilA)) [.im (L1 row), .im (LL held), .ow 0 RW, .no, .no, .no, .no, .no, .no, .no] = .nx [.im (L1 row), .im (LL held), .ow 0 RW, .ow 0 EM, .no, .no, .no, .no, .no, .no] := by
    have c := lcD_fil2 (s := itJ (varD 1)) (vs := [8]) (k := .nm 8) (t := yesT) (e := lstD nilA) (ρ := [.im (L1 row), .im (LL held), .ow 0 RW, .no, .no, .no, .no, .no, .no, .no]) held (fun r => L1 r) (fun _ => L1 []) (fun _ => true) rfl (by omega) (fun x hx => ⟨_, rfl, rfl, fun _ => ⟨.fr 0 ([] : List PD), by simp, e_fzf0 _⟩⟩)
    rw [filter_true] at c
    have e : (@List.map (List Int) PD (fun _ => L1 []) held) = EM := by
      rw [← hEM]
      unfold emptyS
      apply List.ext_getElem
      · simp [hl]
      · intro i h1 h2
        simp
    rw [e] at c
    unfold asgD
    rw [c]
    rfl
  have dEM : PyData.list EM = LL (emptyS n) := by rw [← hEM]
  have q4 : asgD 4 (callD f_dealt (consA (varD 2) nilA)) [.im (L1 row), .im (LL held), .ow 0 RW, .ow 0 EM, .no, .no, .no, .no, .no, .no] = .nx [.im (L1 row), .im (LL held), .ow 0 RW, .ow 0 EM, .ow 1 (T2 D), .no, .no, .no, .no, .no] := by
    unfold asgD
    rw [call1 (a := varD 2) (r1 := .ro 0 RW) rfl ((e_datr0 _).trans dRW) de (flat_T2 _)]
    rfl
  have lr : ∀ x4 : Ent, lrgD (cbD lenF (consA (varD 0) nilA)) [.im (L1 row), .im (LL held), .ow 0 RW, .ow 0 EM, x4, .no, .no, .no, .no, .no] = .ok (.fr 0 (T1 (rangeL 0 (m : Int)))) := fun x4 => by
    have c := len_ok (a := varD 0) (r := .im (L1 row)) (ρ := [.im (L1 row), .im (LL held), .ow 0 RW, .ow 0 EM, x4, .no, .no, .no, .no, .no]) rfl rfl
    rw [List.length_map, hr] at c
    have b : (-100000 : Int) ≤ (m : Int) ∧ (m : Int) ≤ 100000 := by omega
    unfold lrgD
    rw [c, bind_ok]
    simp only [e_dat1]
    rw [if_pos b]
  have t5 : tstD (binR neF (varD 4) (callD f__law_put (consA (varD 0) (consA (varD 3) (consA (lrgD (cbD lenF (consA (varD 0) nilA))) nilA))))) [.im (L1 row), .im (LL held), .ow 0 RW, .ow 0 EM, .ow 1 (T2 D), .no, .no, .no, .no, .no] = .ok false := by
    have k := call3 (a := varD 0) (b := varD 3) (r1 := .im (L1 row)) (r2 := .ro 0 EM) rfl rfl (lr (.ow 1 (T2 D))) rfl ((e_datr0 _).trans dEM) (e_datf0 _) pu (flat_T2 _)
    have ne : neF (LL D) (LL D) = some (.bool false) := by rw [neF_LL]; simp
    exact tst_ok (cmp_ok (f := neF) (a := varD 4) (r1 := .ro 1 (T2 D)) rfl k (dat_T2 _) (dat_T2 _) ne)
  have q6 : clrD 4 [.im (L1 row), .im (LL held), .ow 0 RW, .ow 0 EM, .ow 1 (T2 D), .no, .no, .no, .no, .no] = .nx [.im (L1 row), .im (LL held), .ow 0 RW, .ow 0 EM, .no, .no, .no, .no, .no, .no] := rfl
  have c0 := len_ok (a := varD 0) (r := .im (L1 row)) (ρ := [.im (L1 row), .im (LL held), .ow 0 RW, .ow 0 EM, .no, .no, .no, .no, .no, .no]) rfl rfl
  rw [List.length_map, hr] at c0
  have t7 : tstD (binR eqF (cbD lenF (consA (varD 0) nilA)) (cD (.int 0))) [.im (L1 row), .im (LL held), .ow 0 RW, .ow 0 EM, .no, .no, .no, .no, .no, .no] = .ok (decide ((m : Int) = 0)) := tst_ok (cmp_ok (f := eqF) (b := cD (.int 0)) (r2 := .im (.int 0)) c0 rfl (e_dat1 _) rfl (eqF_int _ _))
  rw [seq_of q2, seq_of q3, seq_of q4, seq_iff t5, seq_of rfl, seq_of q6]
  by_cases c : m = 0
  · subst c
    have e0 : D = emptyS n := by rw [← hD]; rfl
    rw [seq_ift (by rw [t7]; rfl)]
    have k := call1 (a := varD 2) (r1 := .ro 0 RW) (ρ := [.im (L1 row), .im (LL held), .ow 0 RW, .ow 0 EM, .no, .no, .no, .no, .no, .no]) rfl ((e_datr0 _).trans dRW) de (flat_T2 _)
    have eq : eqF (LL D) (LL (emptyS n)) = some (.bool true) := by rw [eqF_LL, e0]; simp
    have r := ret_ok (cmp_ok (f := eqF) (b := varD 3) (r2 := .ro 0 EM) k rfl (dat_T2 _) ((e_datr0 _).trans dEM) eq)
    exact congrArg fin (seq_rt_ r)
  · obtain ⟨t, ht⟩ : ∃ t : Int, (m : Int) - 1 = t := ⟨_, rfl⟩
    have hd : decide ((m : Int) = 0) = false := decide_eq_false (by omega)
    rw [hd] at t7
    have S2 := wf_out (t := t) I.S
    have PA : OkP m n (held.map fun s => s.filter fun x => !decide (x = t)) [t] := ⟨S2, by rw [List.length_map]; exact hl, by simp, fun u hu => by rw [List.mem_singleton.mp hu]; omega, fun u hu s hs hv => by
      rw [List.mem_singleton.mp hu] at hv
      obtain ⟨q, hq, rfl⟩ := List.mem_map.mp hs
      have := (List.mem_filter.mp hv).2
      simp at this⟩
    have q8 : asgD 5 (binR subI (cbD lenF (consA (varD 0) nilA)) (cD (.int 1))) [.im (L1 row), .im (LL held), .ow 0 RW, .ow 0 EM, .no, .no, .no, .no, .no, .no] = .nx [.im (L1 row), .im (LL held), .ow 0 RW, .ow 0 EM, .no, .im (.int t), .no, .no, .no, .no] :=
      asg_im (cmp_ok (f := subI) (b := cD (.int 1)) (r2 := .im (.int 1)) c0 rfl (e_dat1 _) rfl (by
        show subI (.int _) (.int 1) = _
        rw [e_sub, ht]))
    obtain ⟨AL, hAL⟩ : ∃ AL : List PD, (held.map fun s => s.filter fun x => !decide (x = t)).map (fun r => L1 r) = AL := ⟨_, rfl⟩
    have q9 : asgD 6 (lcD (itJ (varD 1)) [8] (.nm 8) yesT (lcD (itJ (varD 8)) [9] (.nm 9) (tstD (binR neF (varD 9) (varD 5))) (varD 9))) [.im (L1 row), .im (LL held), .ow 0 RW, .ow 0 EM, .no, .im (.int t), .no, .no, .no, .no] = .nx [.im (L1 row), .im (LL held), .ow 0 RW, .ow 0 EM, .no, .im (.int t), .ow 0 AL, .no, .no, .no] := by
      have c := lcD_fil2 (s := itJ (varD 1)) (vs := [8]) (k := .nm 8) (t := yesT) (e := lcD (itJ (varD 8)) [9] (.nm 9) (tstD (binR neF (varD 9) (varD 5))) (varD 9)) (ρ := [.im (L1 row), .im (LL held), .ow 0 RW, .ow 0 EM, .no, .im (.int t), .no, .no, .no, .no]) held (fun r => L1 r) (fun r => L1 (r.filter fun x => !decide (x = t))) (fun _ => true) rfl (by omega) (fun s hs => ⟨_, rfl, rfl, fun _ => by
        have sl := I.S.slen hs
        have c := lcD_filt (s := itJ (varD 8)) (vs := [9]) (k := .nm 9) (t := tstD (binR neF (varD 9) (varD 5))) (e := varD 9) (ρ := [.im (L1 row), .im (LL held), .ow 0 RW, .ow 0 EM, .no, .im (.int t), .no, .no, .im (L1 s), .no]) s PyData.int PyData.int (fun x => !decide (x = t)) rfl (by omega) (fun x hx => ⟨_, rfl, by simp [neF_int], fun _ => by simp⟩)
        exact ⟨_, c, e_fzf0 _⟩⟩)
      rw [filter_true] at c
      have e5 : (@List.map (List Int) PD (fun r => L1 (r.filter fun x => !decide (x = t))) held) = AL := by rw [← hAL, List.map_map]; rfl
      rw [e5] at c
      unfold asgD
      rw [c]
      rfl
    generalize (held.map fun s => s.filter fun x => !decide (x = t)) = A at *
    have lt := lto_eq (m := m) hr (by rw [PA.len]; exact h1) (by rw [PA.len]; exact h8) S2
    obtain ⟨st, aw⟩ := one_award W PA
    have pu2 := lput_eq W PA
    have eg : putO row A [t] = gave A (toOf row A) t := rfl
    rw [eg] at pu2
    have dAL : PyData.list AL = LL A := by rw [← hAL]
    generalize toOf row A = a at *
    generalize gave A a t = G at *
    have q10 : asgD 7 (callD f__law_to (consA (varD 0) (consA (varD 6) nilA))) [.im (L1 row), .im (LL held), .ow 0 RW, .ow 0 EM, .no, .im (.int t), .ow 0 AL, .no, .no, .no] = .nx [.im (L1 row), .im (LL held), .ow 0 RW, .ow 0 EM, .no, .im (.int t), .ow 0 AL, .im (.int (a : Nat)), .no, .no] :=
      asg_im (call2 (a := varD 0) (b := varD 6) (r1 := .im (L1 row)) (r2 := .ro 0 AL) rfl rfl rfl ((e_datr0 _).trans dAL) lt rfl)
    have t11 : tstD (binR neF (callD f_steps (consA (varD 2) (consA (varD 6) (consA (varD 5) nilA)))) (lstD (consA (tupD (consA (cD (.str (Str.ofString "give"))) (consA (varD 5) (consA (varD 7) nilA)))) nilA))) [.im (L1 row), .im (LL held), .ow 0 RW, .ow 0 EM, .no, .im (.int t), .ow 0 AL, .im (.int (a : Nat)), .no, .no] = .ok false := by
      have k := call3 (a := varD 2) (b := varD 6) (c := varD 5) (ρ := [.im (L1 row), .im (LL held), .ow 0 RW, .ow 0 EM, .no, .im (.int t), .ow 0 AL, .im (.int (a : Nat)), .no, .no]) (r1 := .ro 0 RW) (r2 := .ro 0 AL) (r3 := .im (.int t)) rfl rfl rfl ((e_datr0 _).trans dRW) ((e_datr0 _).trans dAL) rfl st (give_flat t a)
      have k2 : lstD (consA (tupD (consA (cD (.str (Str.ofString "give"))) (consA (varD 5) (consA (varD 7) nilA)))) nilA) [.im (L1 row), .im (LL held), .ow 0 RW, .ow 0 EM, .no, .im (.int t), .ow 0 AL, .im (.int (a : Nat)), .no, .no] = .ok (.fr 0 ([giveD t a] : List PD)) := lst1_ok (r := .im (giveD t a)) rfl rfl
      exact tst_ok (cmp_ok (f := neF) k k2 (e_datf0 _) (e_datf0 _) (give_ne t a))
    have q12 : asgD 4 (callD f_awarded (consA (varD 2) (consA (varD 6) (consA (varD 5) nilA)))) [.im (L1 row), .im (LL held), .ow 0 RW, .ow 0 EM, .no, .im (.int t), .ow 0 AL, .im (.int (a : Nat)), .no, .no] = .nx [.im (L1 row), .im (LL held), .ow 0 RW, .ow 0 EM, .ow 1 (T2 G), .im (.int t), .ow 0 AL, .im (.int (a : Nat)), .no, .no] := by
      unfold asgD
      rw [call3 (a := varD 2) (b := varD 6) (c := varD 5) (r1 := .ro 0 RW) (r2 := .ro 0 AL) (r3 := .im (.int t)) rfl rfl rfl ((e_datr0 _).trans dRW) ((e_datr0 _).trans dAL) rfl aw (flat_T2 _)]
      rfl
    have k1 := call3 (a := varD 0) (b := varD 6) (r1 := .im (L1 row)) (r2 := .ro 0 AL) (ρ := [.im (L1 row), .im (LL held), .ow 0 RW, .ow 0 EM, .ow 1 (T2 G), .im (.int t), .ow 0 AL, .im (.int (a : Nat)), .no, .no]) rfl rfl (lst1_ok (a := varD 5) (r := .im (.int t)) rfl rfl) rfl ((e_datr0 _).trans dAL) (e_datf0 _) pu2 (flat_T2 _)
    have eq1 : eqF (LL G) (LL G) = some (.bool true) := by rw [eqF_LL]; simp
    have k2 := cmp_ok (f := eqF) (a := varD 4) (r1 := .ro 1 (T2 G)) rfl k1 (dat_T2 _) (dat_T2 _) eq1
    have k3 := rows_ok [.im (L1 row), .im (LL held), .ow 0 RW, .ow 0 EM, .ow 1 (T2 G), .im (.int t), .ow 0 AL, .im (.int (a : Nat)), .no, .no] rfl rfl (fun d => rfl)
    have eq2 : eqF (LL (one n row)) (LL (one n row)) = some (.bool true) := by rw [eqF_LL]; simp
    have k4 := cmp_ok (f := eqF) (a := varD 2) (r1 := .ro 0 RW) rfl k3 ((e_datr0 _).trans dRW) ((e_datf0 _).trans dRW) eq2
    have r := ret_ok (e := andD (binR eqF (varD 4) (callD f__law_put (consA (varD 0) (consA (varD 6) (consA (lstD (consA (varD 5) nilA)) nilA))))) (binR eqF (varD 2) (lcD (itJ (varD 1)) [8] (.nm 8) yesT (listD (consA (varD 0) nilA))))) (d := .bool true) (by
      unfold andD
      rw [k2]
      exact k4)
    rw [seq_iff t7, seq_of rfl, seq_of q8, seq_of q9, seq_of q10, seq_iff t11, seq_of rfl, seq_of q12, r]
    rfl
/-! #### maths: at15 -/
def atS (ns : List Int) (k : Nat) : Int := ns.getD k 0
theorem at_eq (ns : List Int) (k : Int) (h : 0 ≤ k) : f__law_at [Sc ns, .int k] = .ok (.im (.int (atS ns k.toNat))) := by
  unfold f__law_at
  rw [den_eq]
  by_cases c : k < ns.length
  · have e : atI ns k = some (atS ns k.toNat) := by
      rw [atI_nat _ _ h c, atS, List.getD_eq_getElem?_getD, List.getElem?_eq_getElem (by omega)]
      rfl
    simp [d__law_at, c, atI_map, e]
  · have e : atS ns k.toNat = 0 := by
      rw [atS, List.getD_eq_getElem?_getD, List.getElem?_eq_none (by omega)]
      rfl
    simp [d__law_at, c, e]
/-! #### maths: k15 -/
theorem at15 (ns : List Int) : f__law_at [Sc ns, .int 0] = .ok (.im (.int (ns.getD 0 0))) := at_eq ns 0 (by omega)
theorem itD_fr {e : ED} {ρ : Z.Env} {l : List PD} (h : e ρ = .ok (.fr 0 l)) : itD e ρ = .ok l := by
  unfold itD
  rw [h, bind_ok, e_fzf0]
theorem law_rest (Cl p : Addr) (ns : List Int) (h1e : Ent) {n : Nat} (hh : h1e = .im (.int (n : Nat))) (h1 : 1 ≤ n) (h8 : n ≤ 8) (hns : ns.length ≤ 63) :
    dropV ((seqD (asgD 3 (lstD nilA))
      (seqD (asgD 4 (lcD (rg1D (varD 1)) [7] (.nm 7) yesT (lstD nilA)))
      (seqD (frzD 3) (seqD (frzD 4) (seqD (forD (itD (slD (varD 0) (soO (cD (.int 1))) (soO (cD (.int 17))))) (.nm 5) (seqD (asgX 6 (callO Cl (f__law_moved Cl) (fun _ => true) 2 (consA (varD 5) (consA (varD 3) (consA (varD 4) nilA)))))
      (seqD (ifD (tstD (binR isNF (varD 6) (cD .none))) (retD (cD (.bool false))) (fun ρ => .nx ρ))
      (seqD (asgD 3 (ixD (varD 6) (cD (.int 0))))
      (seqD (asgD 4 (ixD (varD 6) (cD (.int 1))))
      (ifX (andX (pureT (tstD (binR eqF (binR modI (binR divI (varD 5) (cD (.int 32))) (cD (.int 2))) (cD (.int 0))))) (notX (tstX (callO Cl (f__law_looked Cl) (fun _ => true) 2 (consA (varD 3) (consA (varD 4) (consA (binR modI (binR divI (varD 5) (cD (.int 16))) (cD (.int 2))) nilA))))))) (retD (cD (.bool false))) (fun ρ => .nx ρ)))))))
      (retX (andVX (callO Cl (f__law_looked Cl) (fun _ => true) 2 (consA (varD 3) (consA (varD 4) (consA (cD (.int 0)) nilA)))) (pureX (callD f__law_told (consA (varD 3) (consA (varD 4) nilA)))))))))))
      [.im (Sc ns), h1e, .ob p Cl (StE (emptyS n) (emptyS n)), .no, .no, .no, .no, .no]) = .rt (.im (.bool true)) := by
  subst hh
  have a3 : (-100000 : Int) ≤ (n : Int) ∧ (n : Int) ≤ 100000 := by omega
  have I0 : I15 n 0 [] (emptyS n) := ⟨one_wf h1 h8 (by omega) rfl (fun v h => nomatch h), emptyS_wf 0 n, emptyS_len n, by omega⟩
  have e0 : StE (emptyS n) (emptyS n) = StE (one n []) (emptyS n) := by rw [one_nil]
  have q3 : asgD 3 (lstD nilA) [.im (Sc ns), .im (.int (n : Nat)), .ob p Cl (StE (emptyS n) (emptyS n)), .no, .no, .no, .no, .no] = .nx [.im (Sc ns), .im (.int (n : Nat)), .ob p Cl (StE (emptyS n) (emptyS n)), .ow 0 ([] : List PD), .no, .no, .no, .no] := rfl
  obtain ⟨EM, hEM⟩ : ∃ EM : List PD, (emptyS n).map (fun r => L1 r) = EM := ⟨_, rfl⟩
  have dEM : PyData.list EM = LL (emptyS n) := by rw [← hEM]
  have k4 := nils_ok (s := rg1D (varD 1)) (n := n) (ρ := [.im (Sc ns), .im (.int (n : Nat)), .ob p Cl (StE (emptyS n) (emptyS n)), .ow 0 ([] : List PD), .no, .no, .no, .no]) 7 (by omega) (by simp [a3])
  replace k4 := k4.trans (congrArg (fun z : List PD => Out.ok (R.fr 0 z)) hEM)
  have q4 : asgD 4 (lcD (rg1D (varD 1)) [7] (.nm 7) yesT (lstD nilA)) [.im (Sc ns), .im (.int (n : Nat)), .ob p Cl (StE (emptyS n) (emptyS n)), .ow 0 ([] : List PD), .no, .no, .no, .no] = .nx [.im (Sc ns), .im (.int (n : Nat)), .ob p Cl (StE (emptyS n) (emptyS n)), .ow 0 ([] : List PD), .ow 0 EM, .no, .no, .no] := by
    unfold asgD
    rw [k4]
    rfl
  have z3 : frzD 3 [.im (Sc ns), .im (.int (n : Nat)), .ob p Cl (StE (emptyS n) (emptyS n)), .ow 0 ([] : List PD), .ow 0 EM, .no, .no, .no] = .nx [.im (Sc ns), .im (.int (n : Nat)), .ob p Cl (StE (emptyS n) (emptyS n)), .im (L1 []), .ow 0 EM, .no, .no, .no] := frz0 (l := []) rfl
  have z4 : frzD 4 [.im (Sc ns), .im (.int (n : Nat)), .ob p Cl (StE (emptyS n) (emptyS n)), .im (L1 []), .ow 0 EM, .no, .no, .no] = .nx [.im (Sc ns), .im (.int (n : Nat)), .ob p Cl (StE (one n []) (emptyS n)), .im (L1 []), .im (LL (emptyS n)), .no, .no, .no] := by
    rw [frz0 (l := EM) rfl, dEM, e0]
    rfl
  have st : ∀ (i : Nat) (h : i < (cutL ns (some 1) (some 17)).length) (ρ : Z.Env), (∃ n' m' row' held' y5 y6, I15 n' m' row' held' ∧ ρ = [.im (Sc ns), .im (.int (n : Nat)), .ob p Cl (StE (one n' row') held'), .im (L1 row'), .im (LL held'), y5, y6, .no]) →
      Stp (fun ρ => ∃ n' m' row' held' y5 y6, I15 n' m' row' held' ∧ ρ = [.im (Sc ns), .im (.int (n : Nat)), .ob p Cl (StE (one n' row') held'), .im (L1 row'), .im (LL held'), y5, y6, .no]) ((seqD (asgX 6 (callO Cl (f__law_moved Cl) (fun _ => true) 2 (consA (varD 5) (consA (varD 3) (consA (varD 4) nilA)))))
      (seqD (ifD (tstD (binR isNF (varD 6) (cD .none))) (retD (cD (.bool false))) (fun ρ => .nx ρ))
      (seqD (asgD 3 (ixD (varD 6) (cD (.int 0))))
      (seqD (asgD 4 (ixD (varD 6) (cD (.int 1))))
      (ifX (andX (pureT (tstD (binR eqF (binR modI (binR divI (varD 5) (cD (.int 32))) (cD (.int 2))) (cD (.int 0))))) (notX (tstX (callO Cl (f__law_looked Cl) (fun _ => true) 2 (consA (varD 3) (consA (varD 4) (consA (binR modI (binR divI (varD 5) (cD (.int 16))) (cD (.int 2))) nilA))))))) (retD (cD (.bool false))) (fun ρ => .nx ρ)))))) (ρ.set 5 (.im (.int (cutL ns (some 1) (some 17))[i])))) := by
    rintro i hi ρ ⟨n', m', row', held', y5, y6, I, rfl⟩
    generalize (cutL ns (some 1) (some 17))[i] = cell
    show Stp _ (seqD _ _ [.im (Sc ns), .im (.int (n : Nat)), .ob p Cl (StE (one n' row') held'), .im (L1 row'), .im (LL held'), .im (.int cell), y6, .no])
    obtain ⟨n2, m2, row2, held2, I2, mv⟩ := moved_eq Cl p cell I
    have k1 : callO Cl (f__law_moved Cl) (fun _ => true) 2 (consA (varD 5) (consA (varD 3) (consA (varD 4) nilA))) [.im (Sc ns), .im (.int (n : Nat)), .ob p Cl (StE (one n' row') held'), .im (L1 row'), .im (LL held'), .im (.int cell), y6, .no] = .ok (.im (.tuple [L1 row2, LL held2])) [.im (Sc ns), .im (.int (n : Nat)), .ob p Cl (StE (one n2 row2) held2), .im (L1 row'), .im (LL held'), .im (.int cell), y6, .no] :=
      callO_im (ds := [.int cell, L1 row', LL held']) rfl rfl rfl rfl mv
    have q1 : asgX 6 (callO Cl (f__law_moved Cl) (fun _ => true) 2 (consA (varD 5) (consA (varD 3) (consA (varD 4) nilA)))) [.im (Sc ns), .im (.int (n : Nat)), .ob p Cl (StE (one n' row') held'), .im (L1 row'), .im (LL held'), .im (.int cell), y6, .no] = .nx [.im (Sc ns), .im (.int (n : Nat)), .ob p Cl (StE (one n2 row2) held2), .im (L1 row'), .im (LL held'), .im (.int cell), .im (.tuple [L1 row2, LL held2]), .no] := by
      unfold asgX
      rw [k1]
      rfl
    have t2 : tstD (binR isNF (varD 6) (cD .none)) [.im (Sc ns), .im (.int (n : Nat)), .ob p Cl (StE (one n2 row2) held2), .im (L1 row'), .im (LL held'), .im (.int cell), .im (.tuple [L1 row2, LL held2]), .no] = .ok false := tst_ok (cmp_ok (f := isNF) (a := varD 6) (b := cD .none) (r1 := .im (.tuple [L1 row2, LL held2])) (r2 := .im .none) rfl rfl rfl rfl rfl)
    have q3 : asgD 3 (ixD (varD 6) (cD (.int 0))) [.im (Sc ns), .im (.int (n : Nat)), .ob p Cl (StE (one n2 row2) held2), .im (L1 row'), .im (LL held'), .im (.int cell), .im (.tuple [L1 row2, LL held2]), .no] = .nx [.im (Sc ns), .im (.int (n : Nat)), .ob p Cl (StE (one n2 row2) held2), .im (L1 row2), .im (LL held'), .im (.int cell), .im (.tuple [L1 row2, LL held2]), .no] :=
      asg_im (ix_ok (a := varD 6) (b := cD (.int 0)) (r1 := .im (.tuple [L1 row2, LL held2])) (k := 0) rfl rfl rfl)
    have q4 : asgD 4 (ixD (varD 6) (cD (.int 1))) [.im (Sc ns), .im (.int (n : Nat)), .ob p Cl (StE (one n2 row2) held2), .im (L1 row2), .im (LL held'), .im (.int cell), .im (.tuple [L1 row2, LL held2]), .no] = .nx [.im (Sc ns), .im (.int (n : Nat)), .ob p Cl (StE (one n2 row2) held2), .im (L1 row2), .im (LL held2), .im (.int cell), .im (.tuple [L1 row2, LL held2]), .no] :=
      asg_im (ix_ok (a := varD 6) (b := cD (.int 1)) (r1 := .im (.tuple [L1 row2, LL held2])) (k := 1) rfl rfl rfl)
    have t5 : andX (pureT (tstD (binR eqF (binR modI (binR divI (varD 5) (cD (.int 32))) (cD (.int 2))) (cD (.int 0))))) (notX (tstX (callO Cl (f__law_looked Cl) (fun _ => true) 2 (consA (varD 3) (consA (varD 4) (consA (binR modI (binR divI (varD 5) (cD (.int 16))) (cD (.int 2))) nilA)))))) [.im (Sc ns), .im (.int (n : Nat)), .ob p Cl (StE (one n2 row2) held2), .im (L1 row2), .im (LL held2), .im (.int cell), .im (.tuple [L1 row2, LL held2]), .no] = .ok false [.im (Sc ns), .im (.int (n : Nat)), .ob p Cl (StE (one n2 row2) held2), .im (L1 row2), .im (LL held2), .im (.int cell), .im (.tuple [L1 row2, LL held2]), .no] := by
      have a : tstD (binR eqF (binR modI (binR divI (varD 5) (cD (.int 32))) (cD (.int 2))) (cD (.int 0))) [.im (Sc ns), .im (.int (n : Nat)), .ob p Cl (StE (one n2 row2) held2), .im (L1 row2), .im (LL held2), .im (.int cell), .im (.tuple [L1 row2, LL held2]), .no] = .ok (decide (cell / 32 % 2 = 0)) := by simp
      have w : binR modI (binR divI (varD 5) (cD (.int 16))) (cD (.int 2)) [.im (Sc ns), .im (.int (n : Nat)), .ob p Cl (StE (one n2 row2) held2), .im (L1 row2), .im (LL held2), .im (.int cell), .im (.tuple [L1 row2, LL held2]), .no] = .ok (.im (.int (cell / 16 % 2))) := by simp
      have c : consA (varD 3) (consA (varD 4) (consA (binR modI (binR divI (varD 5) (cD (.int 16))) (cD (.int 2))) nilA)) [.im (Sc ns), .im (.int (n : Nat)), .ob p Cl (StE (one n2 row2) held2), .im (L1 row2), .im (LL held2), .im (.int cell), .im (.tuple [L1 row2, LL held2]), .no] = .ok [.im (L1 row2), .im (LL held2), .im (.int (cell / 16 % 2))] := by
        have := cons1_ok w
        show ((varD 3 _).bind fun x => ((varD 4 _).bind fun y => (consA (binR modI (binR divI (varD 5) (cD (.int 16))) (cD (.int 2))) nilA [.im (Sc ns), .im (.int (n : Nat)), .ob p Cl (StE (one n2 row2) held2), .im (L1 row2), .im (LL held2), .im (.int cell), .im (.tuple [L1 row2, LL held2]), .no]).bind fun ys => Out.ok (y.fz :: ys)).bind fun xs => Out.ok (x.fz :: xs)) = _
        rw [this]
        rfl
      have lk := looked_eq Cl p (cell / 16 % 2) I2
      have k : callO Cl (f__law_looked Cl) (fun _ => true) 2 (consA (varD 3) (consA (varD 4) (consA (binR modI (binR divI (varD 5) (cD (.int 16))) (cD (.int 2))) nilA))) [.im (Sc ns), .im (.int (n : Nat)), .ob p Cl (StE (one n2 row2) held2), .im (L1 row2), .im (LL held2), .im (.int cell), .im (.tuple [L1 row2, LL held2]), .no] = .ok (.im (.bool true)) [.im (Sc ns), .im (.int (n : Nat)), .ob p Cl (StE (one n2 row2) held2), .im (L1 row2), .im (LL held2), .im (.int cell), .im (.tuple [L1 row2, LL held2]), .no] :=
        callO_im (ds := [L1 row2, LL held2, .int (cell / 16 % 2)]) rfl rfl c rfl lk
      have kt := tstX_ok k
      unfold andX pureT
      rw [a]
      cases decide (cell / 32 % 2 = 0) with
      | true =>
        unfold notX
        simp only [kt]
        rfl
      | false => rfl
    rw [seq_of q1, seq_iff t2, seq_of rfl, seq_of q3, seq_of q4, ifX_f t5]
    exact stp_nx ⟨_, _, _, _, _, _, I2, rfl⟩
  obtain ⟨ρ', w, n2, m2, row2, held2, y5, y6, I2, rfl⟩ := for_nm (j := 5) (s := itD (slD (varD 0) (soO (cD (.int 1))) (soO (cD (.int 17))))) (ρ := [.im (Sc ns), .im (.int (n : Nat)), .ob p Cl (StE (one n []) (emptyS n)), .im (L1 []), .im (LL (emptyS n)), .no, .no, .no]) (fun _ ρ => ∃ n' m' row' held' y5 y6, I15 n' m' row' held' ∧ ρ = [.im (Sc ns), .im (.int (n : Nat)), .ob p Cl (StE (one n' row') held'), .im (L1 row'), .im (LL held'), y5, y6, .no]) (cutL ns (some 1) (some 17)) PyData.int (by
      have s1 : slD (varD 0) (soO (cD (.int 1))) (soO (cD (.int 17))) [.im (Sc ns), .im (.int (n : Nat)), .ob p Cl (StE (one n []) (emptyS n)), .im (L1 []), .im (LL (emptyS n)), .no, .no, .no] = .ok (.fr 0 (cutL (ns.map PyData.int) (some 1) (some 17))) := rfl
      have e : cutL (ns.map PyData.int) (some 1) (some 17) = (cutL ns (some 1) (some 17)).map PyData.int := by
        unfold cutL
        rw [List.length_map, ← List.map_drop, ← List.map_take]
      exact (itD_fr s1).trans (congrArg Out.ok e)) ⟨n, 0, [], emptyS n, _, _, I0, rfl⟩ st
  have lk := looked_eq Cl p 0 I2
  have td := told_eq I2
  have k : callO Cl (f__law_looked Cl) (fun _ => true) 2 (consA (varD 3) (consA (varD 4) (consA (cD (.int 0)) nilA))) [.im (Sc ns), .im (.int (n : Nat)), .ob p Cl (StE (one n2 row2) held2), .im (L1 row2), .im (LL held2), y5, y6, .no] = .ok (.im (.bool true)) [.im (Sc ns), .im (.int (n : Nat)), .ob p Cl (StE (one n2 row2) held2), .im (L1 row2), .im (LL held2), y5, y6, .no] :=
    callO_im (ds := [L1 row2, LL held2, .int 0]) rfl rfl rfl rfl lk
  have k2 := pure_im (call_i2 (a := varD 3) (b := varD 4) (ρ := [.im (Sc ns), .im (.int (n : Nat)), .ob p Cl (StE (one n2 row2) held2), .im (L1 row2), .im (LL held2), y5, y6, .no]) rfl rfl td)
  have k3 : andVX (callO Cl (f__law_looked Cl) (fun _ => true) 2 (consA (varD 3) (consA (varD 4) (consA (cD (.int 0)) nilA)))) (pureX (callD f__law_told (consA (varD 3) (consA (varD 4) nilA)))) [.im (Sc ns), .im (.int (n : Nat)), .ob p Cl (StE (one n2 row2) held2), .im (L1 row2), .im (LL held2), y5, y6, .no] = .ok (.im (.bool true)) [.im (Sc ns), .im (.int (n : Nat)), .ob p Cl (StE (one n2 row2) held2), .im (L1 row2), .im (LL held2), y5, y6, .no] := by
    unfold andVX
    rw [k]
    exact k2
  have big := (seq_of q3).trans ((seq_of q4).trans ((seq_of z3).trans ((seq_of z4).trans ((seq_of w).trans (retX_ok k3)))))
  exact (congrArg dropV big).trans rfl
theorem law_true (Cl : Addr) (ns : List Int) (hns : ns.length ≤ 63) : f_law Cl [.dict [(.none, .list (ns.map PyData.int))]] = .ok (.im (.bool true)) := by
  have a0 := at15 ns
  obtain ⟨n, hn, h1, h8⟩ : ∃ n : Nat, (if ns.getD 0 0 / 4 % 8 = 1 then 1 + ns.getD 0 0 % 4 + 4 else 1 + ns.getD 0 0 % 4) = (n : Int) ∧ 1 ≤ n ∧ n ≤ 8 := by
    refine ⟨(if ns.getD 0 0 / 4 % 8 = 1 then 1 + ns.getD 0 0 % 4 + 4 else 1 + ns.getD 0 0 % 4).toNat, ?_, ?_, ?_⟩ <;> split <;> omega
  have q1 : asgD 1 (addD (cD (.int 1)) (binR modI (callD f__law_at (consA (varD 0) (consA (cD (.int 0)) nilA))) (cD (.int 4)))) [.im (Sc ns), .no, .no, .no, .no, .no, .no, .no] = .nx [.im (Sc ns), .im (.int (1 + ns.getD 0 0 % 4)), .no, .no, .no, .no, .no, .no] := by
    have c := cmp_ok (f := modI) (b := cD (.int 4)) (r2 := .im (.int 4)) (d := .int (ns.getD 0 0 % 4)) (call_i2 (a := varD 0) (b := cD (.int 0)) (ρ := [.im (Sc ns), .no, .no, .no, .no, .no, .no, .no]) rfl rfl a0) rfl (e_dat1 _) rfl (by simp)
    have c2 : addD (cD (.int 1)) (binR modI (callD f__law_at (consA (varD 0) (consA (cD (.int 0)) nilA))) (cD (.int 4))) [.im (Sc ns), .no, .no, .no, .no, .no, .no, .no] = .ok (.im (.int (1 + ns.getD 0 0 % 4))) := by
      unfold addD
      rw [c]
      rfl
    exact asg_im c2
  have c3 := cmp_ok (f := divI) (b := cD (.int 4)) (r2 := .im (.int 4)) (d := .int (ns.getD 0 0 / 4)) (call_i2 (a := varD 0) (b := cD (.int 0)) (ρ := [.im (Sc ns), .im (.int (1 + ns.getD 0 0 % 4)), .no, .no, .no, .no, .no, .no]) rfl rfl a0) rfl (e_dat1 _) rfl (by simp)
  have c4 := cmp_ok (f := modI) (b := cD (.int 8)) (r2 := .im (.int 8)) (d := .int (ns.getD 0 0 / 4 % 8)) c3 rfl (e_dat1 _) rfl (by simp)
  have t2 := tst_ok (cmp_ok (f := eqF) (b := cD (.int 1)) (r2 := .im (.int 1)) c4 rfl (e_dat1 _) rfl (eqF_int _ _))
  have q2 : ∀ B : SD, seqD (ifD (tstD (binR eqF (binR modI (binR divI (callD f__law_at (consA (varD 0) (consA (cD (.int 0)) nilA))) (cD (.int 4))) (cD (.int 8))) (cD (.int 1)))) (asgD 1 (addD (varD 1) (cD (.int 4)))) (fun ρ => .nx ρ)) B [.im (Sc ns), .im (.int (1 + ns.getD 0 0 % 4)), .no, .no, .no, .no, .no, .no] = B [.im (Sc ns), .im (.int (n : Nat)), .no, .no, .no, .no, .no, .no] := fun B => by
    by_cases c : ns.getD 0 0 / 4 % 8 = 1
    · rw [decide_eq_true c] at t2
      rw [if_pos c] at hn
      rw [seq_ift t2]
      have : asgD 1 (addD (varD 1) (cD (.int 4))) [.im (Sc ns), .im (.int (1 + ns.getD 0 0 % 4)), .no, .no, .no, .no, .no, .no] = .nx [.im (Sc ns), .im (.int (n : Nat)), .no, .no, .no, .no, .no, .no] := by
        rw [← hn]
        rfl
      rw [seq_of this]
    · rw [decide_eq_false c] at t2
      rw [if_neg c] at hn
      rw [seq_iff t2, seq_of rfl, hn]
  have ie := fun p : Addr => init_eq Cl p h1 h8
  have mk : ∀ p : Addr, ∀ d : SD, mkO Cl 2 (f_Estate___init__ Cl) (consA (varD 1) nilA) d p [.im (Sc ns), .im (.int (n : Nat)), .no, .no, .no, .no, .no, .no] = dropV (d [.im (Sc ns), .im (.int (n : Nat)), .ob p Cl (StE (emptyS n) (emptyS n)), .no, .no, .no, .no, .no]) := fun p d => by
    unfold mkO
    show (if ([.im (.int (n : Nat))] : List R).all R.isIm = true then (match f_Estate___init__ Cl p [] [.int (n : Nat)] with | .ok (.im .none) fs => dropV (d ([.im (Sc ns), .im (.int (n : Nat)), .no, .no, .no, .no, .no, .no].set 2 (.ob p Cl fs))) | _ => SO.st) else SO.st) = _
    rw [ie p]
    rfl
  unfold f_law
  rw [den_eq]
  show fin (d_law Cl [.im (Sc ns), .no, .no, .no, .no, .no, .no, .no]) = _
  unfold d_law
  rw [seq_of q1, q2]
  unfold mkB
  rw [if_pos (fun p => by rw [mk p, mk 0, law_rest Cl p ns _ rfl h1 h8 hns, law_rest Cl 0 ns _ rfl h1 h8 hns]), mk 0, law_rest Cl 0 ns _ rfl h1 h8 hns]
  rfl
end
end P

/-! ## k15H -/
set_option Elab.async false
set_option linter.all false
set_option maxRecDepth 100000
set_option maxHeartbeats 0

namespace P
open PySem PySem.Spec PyProof.Rows L2 Z
/-! ### the head -/
def D_is_number_below : He.DefD := ⟨("is_number_below", none), "is_number_below", "is_number_below", defArgs s_is_number_below, defBody s_is_number_below, defScope s_is_number_below, [], []⟩
def D_is_list_below : He.DefD := ⟨("is_list_below", none), "is_list_below", "is_list_below", defArgs s_is_list_below, defBody s_is_list_below, defScope s_is_list_below, [], []⟩
def D_need_table : He.DefD := ⟨("need_table", none), "need_table", "need_table", defArgs s_need_table, defBody s_need_table, defScope s_need_table, [], []⟩
def D_need_worths : He.DefD := ⟨("need_worths", none), "need_worths", "need_worths", defArgs s_need_worths, defBody s_need_worths, defScope s_need_worths, [], []⟩
def D_need_parted : He.DefD := ⟨("need_parted", none), "need_parted", "need_parted", defArgs s_need_parted, defBody s_need_parted, defScope s_need_parted, [], []⟩
def D_need_shares : He.DefD := ⟨("need_shares", none), "need_shares", "need_shares", defArgs s_need_shares, defBody s_need_shares, defScope s_need_shares, [], []⟩
def D_need_heir : He.DefD := ⟨("need_heir", none), "need_heir", "need_heir", defArgs s_need_heir, defBody s_need_heir, defScope s_need_heir, [], []⟩
def D_total : He.DefD := ⟨("total", none), "total", "total", defArgs s_total, defBody s_total, defScope s_total, [], []⟩
def D_prefers : He.DefD := ⟨("prefers", none), "prefers", "prefers", defArgs s_prefers, defBody s_prefers, defScope s_prefers, [], []⟩
def D_envies : He.DefD := ⟨("envies", none), "envies", "envies", defArgs s_envies, defBody s_envies, defScope s_envies, [], []⟩
def D_unenvied : He.DefD := ⟨("unenvied", none), "unenvied", "unenvied", defArgs s_unenvied, defBody s_unenvied, defScope s_unenvied, [], []⟩
def D_front_of_line : He.DefD := ⟨("front_of_line", none), "front_of_line", "front_of_line", defArgs s_front_of_line, defBody s_front_of_line, defScope s_front_of_line, [], []⟩
def D_ring_among : He.DefD := ⟨("ring_among", none), "ring_among", "ring_among", defArgs s_ring_among, defBody s_ring_among, defScope s_ring_among, [], []⟩
def D_ring : He.DefD := ⟨("ring", none), "ring", "ring", defArgs s_ring, defBody s_ring, defScope s_ring, [], []⟩
def D_with_next_ones : He.DefD := ⟨("with_next_ones", none), "with_next_ones", "with_next_ones", defArgs s_with_next_ones, defBody s_with_next_ones, defScope s_with_next_ones, [], []⟩
def D_is_ring : He.DefD := ⟨("is_ring", none), "is_ring", "is_ring", defArgs s_is_ring, defBody s_is_ring, defScope s_is_ring, [], []⟩
def D_turned : He.DefD := ⟨("turned", none), "turned", "turned", defArgs s_turned, defBody s_turned, defScope s_turned, [], []⟩
def D_need_aside : He.DefD := ⟨("need_aside", none), "need_aside", "need_aside", defArgs s_need_aside, defBody s_need_aside, defScope s_need_aside, [], []⟩
def D_steps : He.DefD := ⟨("steps", none), "steps", "steps", defArgs s_steps, defBody s_steps, defScope s_steps, [], []⟩
def D_awarded : He.DefD := ⟨("awarded", none), "awarded", "awarded", defArgs s_awarded, defBody s_awarded, defScope s_awarded, [], []⟩
def D_dealt : He.DefD := ⟨("dealt", none), "dealt", "dealt", defArgs s_dealt, defBody s_dealt, defScope s_dealt, [], []⟩
def D_Estate___init__ : He.DefD := ⟨("Estate", some "__init__"), "__init__", "Estate.__init__", defArgs s_Estate___init__, defBody s_Estate___init__, defScope s_Estate___init__, [], []⟩
def D_Estate_come : He.DefD := ⟨("Estate", some "come"), "come", "Estate.come", defArgs s_Estate_come, defBody s_Estate_come, defScope s_Estate_come, [], []⟩
def D_Estate_go : He.DefD := ⟨("Estate", some "go"), "go", "Estate.go", defArgs s_Estate_go, defBody s_Estate_go, defScope s_Estate_go, [], []⟩
def D_Estate_join : He.DefD := ⟨("Estate", some "join"), "join", "Estate.join", defArgs s_Estate_join, defBody s_Estate_join, defScope s_Estate_join, [], []⟩
def D_Estate_shares : He.DefD := ⟨("Estate", some "shares"), "shares", "Estate.shares", defArgs s_Estate_shares, defBody s_Estate_shares, defScope s_Estate_shares, [], []⟩
def D_Estate_table : He.DefD := ⟨("Estate", some "table"), "table", "Estate.table", defArgs s_Estate_table, defBody s_Estate_table, defScope s_Estate_table, [], []⟩
def D__law_at : He.DefD := ⟨("_law_at", none), "_law_at", "_law_at", defArgs s__law_at, defBody s__law_at, defScope s__law_at, [], []⟩
def D__law_mixed : He.DefD := ⟨("_law_mixed", none), "_law_mixed", "_law_mixed", defArgs s__law_mixed, defBody s__law_mixed, defScope s__law_mixed, [], []⟩
def D__law_sum : He.DefD := ⟨("_law_sum", none), "_law_sum", "_law_sum", defArgs s__law_sum, defBody s__law_sum, defScope s__law_sum, [], []⟩
def D__law_copy : He.DefD := ⟨("_law_copy", none), "_law_copy", "_law_copy", defArgs s__law_copy, defBody s__law_copy, defScope s__law_copy, [], []⟩
def D__law_worth : He.DefD := ⟨("_law_worth", none), "_law_worth", "_law_worth", defArgs s__law_worth, defBody s__law_worth, defScope s__law_worth, [], []⟩
def D__law_to : He.DefD := ⟨("_law_to", none), "_law_to", "_law_to", defArgs s__law_to, defBody s__law_to, defScope s__law_to, [], []⟩
def D__law_put : He.DefD := ⟨("_law_put", none), "_law_put", "_law_put", defArgs s__law_put, defBody s__law_put, defScope s__law_put, [], []⟩
def D__law_moved : He.DefD := ⟨("_law_moved", none), "_law_moved", "_law_moved", defArgs s__law_moved, defBody s__law_moved, defScope s__law_moved, [], []⟩
def D__law_told : He.DefD := ⟨("_law_told", none), "_law_told", "_law_told", defArgs s__law_told, defBody s__law_told, defScope s__law_told, [], []⟩
def D__law_looked : He.DefD := ⟨("_law_looked", none), "_law_looked", "_law_looked", defArgs s__law_looked, defBody s__law_looked, defScope s__law_looked, [], []⟩
def D_law : He.DefD := ⟨("law", none), "law", "law", defArgs s_law, defBody s_law, defScope s_law, [], []⟩
def fn : List He.DefD := [D_is_number_below, D_is_list_below, D_need_table, D_need_worths, D_need_parted, D_need_shares, D_need_heir, D_total, D_prefers, D_envies, D_unenvied, D_front_of_line, D_ring_among, D_ring, D_with_next_ones, D_is_ring, D_turned, D_need_aside, D_steps, D_awarded, D_dealt, D_Estate___init__, D_Estate_come, D_Estate_go, D_Estate_join, D_Estate_shares, D_Estate_table, D__law_at, D__law_mixed, D__law_sum, D__law_copy, D__law_worth, D__law_to, D__law_put, D__law_moved, D__law_told, D__law_looked, D_law]
def xs : List Xf := []
def fa : List He.Fa := [.glo "is_number_below", .glo "is_list_below", .glo "need_table", .glo "need_worths", .glo "need_parted", .glo "need_shares", .glo "need_heir", .glo "total", .glo "prefers", .glo "envies", .glo "unenvied", .glo "front_of_line", .glo "ring_among", .glo "ring", .glo "with_next_ones", .glo "is_ring", .glo "turned", .glo "need_aside", .glo "steps", .glo "awarded", .glo "dealt", .glo "Estate", .glo "Estate", .glo "Estate", .glo "Estate", .glo "Estate", .glo "Estate", .glo "_law_at", .glo "_law_mixed", .glo "_law_sum", .glo "_law_copy", .glo "_law_worth", .glo "_law_to", .glo "_law_put", .glo "_law_moved", .glo "_law_told", .glo "_law_looked", .glo "law", .free "type", .free "int", .free "list", .free "all", .free "len", .free "sorted", .free "set", .free "sum", .free "enumerate", .free "any", .free "range", .free "zip", .free "tuple", .free "min", .int "MOST_HEIRS" 8, .int "MOST_WORTH" 1000000, .int "MOST_THINGS" 40, .glo "BadTable", .exc "BadTable", .glo "BadShares", .exc "BadShares", .glo "BadHeir", .exc "BadHeir", .glo "BadRing", .exc "BadRing", .glo "BadThing", .exc "BadThing", .glo "Full", .exc "Full", .mkr "Estate", .meth "Estate" "come", .meth "Estate" "go", .meth "Estate" "join", .meth "Estate" "shares", .meth "Estate" "table", .cls "Estate", .noat "Estate" "_rows", .noat "Estate" "_held"]
abbrev R0 : PySem.W.OpenRow := PySem.W.OpenLaw.row PySem.Challenge.rw_thingdeal_k15_whole_heirs_of_one_mind
abbrev hk : PySem.W.Hook := hookX 4 fa fn xs
def ob (s : PySem.W.SharedT) : He.AlD × Bool := obsXG 4 fa fn xs (HandSHeadRun.getT s)
theorem ob_eq (s : PySem.W.SharedT) : ob s = hk.obs s.abs := obsXG_eq (HandSHeadRun.getT_eq s)
def nm0 : List PySem.Str := ["DealError", "BadTable", "BadShares", "BadHeir", "BadThing", "BadRing", "Full", "MOST_HEIRS", "MOST_THINGS", "MOST_WORTH", "is_number_below", "is_list_below", "need_table", "need_worths", "need_parted", "need_shares", "need_heir", "total", "prefers", "envies", "unenvied", "front_of_line", "ring_among", "ring", "with_next_ones", "is_ring", "turned", "need_aside", "steps", "awarded"]
def nm1 : List PySem.Str := ["dealt", "Estate", "_law_at", "_law_mixed", "_law_sum", "_law_copy", "_law_worth", "_law_to", "_law_put", "_law_moved", "_law_told", "_law_looked"]
def nms : List PySem.Str := nm0 ++ nm1
theorem run (w : World) : HandSHeadRun.RunEq R0 (PySem.W.view R0.prog [50]) hk ob 8000 nms w := by
  intro os
  kernel_rfl
theorem facts {P : Program} {w : World} {K : PySem.W.Frag} {h : Heap} {mg : Str → Option Value} {f : Addr} (X : K.In h) (G : h.Ns mainGlobals mg) (hfa : mg ("law" : Str) = some (.ref f)) (c : He.SaysD fa fn K) (hx : ∀ f ∈ xs, XfOk K f) :
    ∃ fd : FuncData, (∀ (s : Shared) (v : Value), BindsTo s fd ⟨[v], []⟩ [("_law_script", v)]) ∧ ∀ base : Heap, K.In base → base.Ns mainGlobals mg → FnOk P w K mg base (L2N.CX P w) 13 f fd ["_law_script"] (SpF K (cm K) 1 (f_law (He.ga K "Estate"))) := by
  obtain ⟨fd_is_number_below, F_is_number_below⟩ := c.def_ 0 (d := D_is_number_below) rfl
  obtain ⟨fd_is_list_below, F_is_list_below⟩ := c.def_ 1 (d := D_is_list_below) rfl
  obtain ⟨fd_need_table, F_need_table⟩ := c.def_ 2 (d := D_need_table) rfl
  obtain ⟨fd_need_worths, F_need_worths⟩ := c.def_ 3 (d := D_need_worths) rfl
  obtain ⟨fd_need_parted, F_need_parted⟩ := c.def_ 4 (d := D_need_parted) rfl
  obtain ⟨fd_need_shares, F_need_shares⟩ := c.def_ 5 (d := D_need_shares) rfl
  obtain ⟨fd_need_heir, F_need_heir⟩ := c.def_ 6 (d := D_need_heir) rfl
  obtain ⟨fd_total, F_total⟩ := c.def_ 7 (d := D_total) rfl
  obtain ⟨fd_prefers, F_prefers⟩ := c.def_ 8 (d := D_prefers) rfl
  obtain ⟨fd_envies, F_envies⟩ := c.def_ 9 (d := D_envies) rfl
  obtain ⟨fd_unenvied, F_unenvied⟩ := c.def_ 10 (d := D_unenvied) rfl
  obtain ⟨fd_front_of_line, F_front_of_line⟩ := c.def_ 11 (d := D_front_of_line) rfl
  obtain ⟨fd_ring_among, F_ring_among⟩ := c.def_ 12 (d := D_ring_among) rfl
  obtain ⟨fd_ring, F_ring⟩ := c.def_ 13 (d := D_ring) rfl
  obtain ⟨fd_with_next_ones, F_with_next_ones⟩ := c.def_ 14 (d := D_with_next_ones) rfl
  obtain ⟨fd_is_ring, F_is_ring⟩ := c.def_ 15 (d := D_is_ring) rfl
  obtain ⟨fd_turned, F_turned⟩ := c.def_ 16 (d := D_turned) rfl
  obtain ⟨fd_need_aside, F_need_aside⟩ := c.def_ 17 (d := D_need_aside) rfl
  obtain ⟨fd_steps, F_steps⟩ := c.def_ 18 (d := D_steps) rfl
  obtain ⟨fd_awarded, F_awarded⟩ := c.def_ 19 (d := D_awarded) rfl
  obtain ⟨fd_dealt, F_dealt⟩ := c.def_ 20 (d := D_dealt) rfl
  obtain ⟨fd_Estate___init__, F_Estate___init__⟩ := c.def_ 21 (d := D_Estate___init__) rfl
  obtain ⟨fd_Estate_come, F_Estate_come⟩ := c.def_ 22 (d := D_Estate_come) rfl
  obtain ⟨fd_Estate_go, F_Estate_go⟩ := c.def_ 23 (d := D_Estate_go) rfl
  obtain ⟨fd_Estate_join, F_Estate_join⟩ := c.def_ 24 (d := D_Estate_join) rfl
  obtain ⟨fd_Estate_shares, F_Estate_shares⟩ := c.def_ 25 (d := D_Estate_shares) rfl
  obtain ⟨fd_Estate_table, F_Estate_table⟩ := c.def_ 26 (d := D_Estate_table) rfl
  obtain ⟨fd__law_at, F__law_at⟩ := c.def_ 27 (d := D__law_at) rfl
  obtain ⟨fd__law_mixed, F__law_mixed⟩ := c.def_ 28 (d := D__law_mixed) rfl
  obtain ⟨fd__law_sum, F__law_sum⟩ := c.def_ 29 (d := D__law_sum) rfl
  obtain ⟨fd__law_copy, F__law_copy⟩ := c.def_ 30 (d := D__law_copy) rfl
  obtain ⟨fd__law_worth, F__law_worth⟩ := c.def_ 31 (d := D__law_worth) rfl
  obtain ⟨fd__law_to, F__law_to⟩ := c.def_ 32 (d := D__law_to) rfl
  obtain ⟨fd__law_put, F__law_put⟩ := c.def_ 33 (d := D__law_put) rfl
  obtain ⟨fd__law_moved, F__law_moved⟩ := c.def_ 34 (d := D__law_moved) rfl
  obtain ⟨fd__law_told, F__law_told⟩ := c.def_ 35 (d := D__law_told) rfl
  obtain ⟨fd__law_looked, F__law_looked⟩ := c.def_ 36 (d := D__law_looked) rfl
  obtain ⟨fd_law, F_law⟩ := c.def_ 37 (d := D_law) rfl
  have g_is_number_below := He.glo_ok X G (c.fact 0 (f := .glo "is_number_below") rfl)
  have g_is_list_below := He.glo_ok X G (c.fact 1 (f := .glo "is_list_below") rfl)
  have g_need_table := He.glo_ok X G (c.fact 2 (f := .glo "need_table") rfl)
  have g_need_worths := He.glo_ok X G (c.fact 3 (f := .glo "need_worths") rfl)
  have g_need_parted := He.glo_ok X G (c.fact 4 (f := .glo "need_parted") rfl)
  have g_need_shares := He.glo_ok X G (c.fact 5 (f := .glo "need_shares") rfl)
  have g_need_heir := He.glo_ok X G (c.fact 6 (f := .glo "need_heir") rfl)
  have g_total := He.glo_ok X G (c.fact 7 (f := .glo "total") rfl)
  have g_prefers := He.glo_ok X G (c.fact 8 (f := .glo "prefers") rfl)
  have g_envies := He.glo_ok X G (c.fact 9 (f := .glo "envies") rfl)
  have g_unenvied := He.glo_ok X G (c.fact 10 (f := .glo "unenvied") rfl)
  have g_front_of_line := He.glo_ok X G (c.fact 11 (f := .glo "front_of_line") rfl)
  have g_ring_among := He.glo_ok X G (c.fact 12 (f := .glo "ring_among") rfl)
  have g_ring := He.glo_ok X G (c.fact 13 (f := .glo "ring") rfl)
  have g_with_next_ones := He.glo_ok X G (c.fact 14 (f := .glo "with_next_ones") rfl)
  have g_is_ring := He.glo_ok X G (c.fact 15 (f := .glo "is_ring") rfl)
  have g_turned := He.glo_ok X G (c.fact 16 (f := .glo "turned") rfl)
  have g_need_aside := He.glo_ok X G (c.fact 17 (f := .glo "need_aside") rfl)
  have g_steps := He.glo_ok X G (c.fact 18 (f := .glo "steps") rfl)
  have g_awarded := He.glo_ok X G (c.fact 19 (f := .glo "awarded") rfl)
  have g_dealt := He.glo_ok X G (c.fact 20 (f := .glo "dealt") rfl)
  have g_Estate___init__ := He.glo_ok X G (c.fact 21 (f := .glo "Estate") rfl)
  have g_Estate_come := He.glo_ok X G (c.fact 22 (f := .glo "Estate") rfl)
  have g_Estate_go := He.glo_ok X G (c.fact 23 (f := .glo "Estate") rfl)
  have g_Estate_join := He.glo_ok X G (c.fact 24 (f := .glo "Estate") rfl)
  have g_Estate_shares := He.glo_ok X G (c.fact 25 (f := .glo "Estate") rfl)
  have g_Estate_table := He.glo_ok X G (c.fact 26 (f := .glo "Estate") rfl)
  have g__law_at := He.glo_ok X G (c.fact 27 (f := .glo "_law_at") rfl)
  have g__law_mixed := He.glo_ok X G (c.fact 28 (f := .glo "_law_mixed") rfl)
  have g__law_sum := He.glo_ok X G (c.fact 29 (f := .glo "_law_sum") rfl)
  have g__law_copy := He.glo_ok X G (c.fact 30 (f := .glo "_law_copy") rfl)
  have g__law_worth := He.glo_ok X G (c.fact 31 (f := .glo "_law_worth") rfl)
  have g__law_to := He.glo_ok X G (c.fact 32 (f := .glo "_law_to") rfl)
  have g__law_put := He.glo_ok X G (c.fact 33 (f := .glo "_law_put") rfl)
  have g__law_moved := He.glo_ok X G (c.fact 34 (f := .glo "_law_moved") rfl)
  have g__law_told := He.glo_ok X G (c.fact 35 (f := .glo "_law_told") rfl)
  have g__law_looked := He.glo_ok X G (c.fact 36 (f := .glo "_law_looked") rfl)
  have g_law := He.glo_ok X G (c.fact 37 (f := .glo "law") rfl)
  have h_type := He.free_ok X G (c.fact 38 (f := .free "type") rfl)
  have h_int := He.free_ok X G (c.fact 39 (f := .free "int") rfl)
  have h_list := He.free_ok X G (c.fact 40 (f := .free "list") rfl)
  have h_all := He.free_ok X G (c.fact 41 (f := .free "all") rfl)
  have h_len := He.free_ok X G (c.fact 42 (f := .free "len") rfl)
  have h_sorted := He.free_ok X G (c.fact 43 (f := .free "sorted") rfl)
  have h_set := He.free_ok X G (c.fact 44 (f := .free "set") rfl)
  have h_sum := He.free_ok X G (c.fact 45 (f := .free "sum") rfl)
  have h_enumerate := He.free_ok X G (c.fact 46 (f := .free "enumerate") rfl)
  have h_any := He.free_ok X G (c.fact 47 (f := .free "any") rfl)
  have h_range := He.free_ok X G (c.fact 48 (f := .free "range") rfl)
  have h_zip := He.free_ok X G (c.fact 49 (f := .free "zip") rfl)
  have h_tuple := He.free_ok X G (c.fact 50 (f := .free "tuple") rfl)
  have h_min := He.free_ok X G (c.fact 51 (f := .free "min") rfl)
  obtain ⟨t_MOST_HEIRS, hc_MOST_HEIRS⟩ := He.int_ok X G (c.fact 52 (f := .int "MOST_HEIRS" 8) rfl)
  obtain ⟨t_MOST_WORTH, hc_MOST_WORTH⟩ := He.int_ok X G (c.fact 53 (f := .int "MOST_WORTH" 1000000) rfl)
  obtain ⟨t_MOST_THINGS, hc_MOST_THINGS⟩ := He.int_ok X G (c.fact 54 (f := .int "MOST_THINGS" 40) rfl)
  have e_BadTable : ExF K mg "BadTable" := ⟨He.glo_ok X G (c.fact 55 (f := .glo "BadTable") rfl), He.exc_ok (c.fact 56 (f := .exc "BadTable") rfl)⟩
  have g_BadTable := e_BadTable.1
  have e_BadShares : ExF K mg "BadShares" := ⟨He.glo_ok X G (c.fact 57 (f := .glo "BadShares") rfl), He.exc_ok (c.fact 58 (f := .exc "BadShares") rfl)⟩
  have g_BadShares := e_BadShares.1
  have e_BadHeir : ExF K mg "BadHeir" := ⟨He.glo_ok X G (c.fact 59 (f := .glo "BadHeir") rfl), He.exc_ok (c.fact 60 (f := .exc "BadHeir") rfl)⟩
  have g_BadHeir := e_BadHeir.1
  have e_BadRing : ExF K mg "BadRing" := ⟨He.glo_ok X G (c.fact 61 (f := .glo "BadRing") rfl), He.exc_ok (c.fact 62 (f := .exc "BadRing") rfl)⟩
  have g_BadRing := e_BadRing.1
  have e_BadThing : ExF K mg "BadThing" := ⟨He.glo_ok X G (c.fact 63 (f := .glo "BadThing") rfl), He.exc_ok (c.fact 64 (f := .exc "BadThing") rfl)⟩
  have g_BadThing := e_BadThing.1
  have e_Full : ExF K mg "Full" := ⟨He.glo_ok X G (c.fact 65 (f := .glo "Full") rfl), He.exc_ok (c.fact 66 (f := .exc "Full") rfl)⟩
  have g_Full := e_Full.1
  have e := hfa.symm.trans g_law
  cases e
  have b := FunD.bindsA (ps := ["_law_script"]) F_law fun _ _ _ _ _ _ us hl => match us, hl with | [_], _ => rfl
  refine ⟨fd_law, fun s v => b s [v] rfl, fun base _ _ => ?_⟩
  have cls_Estate := He.cls_ok (c.fact 73 (f := .cls "Estate") rfl)
  have O_Estate : ObjK K (He.ga K "Estate") ["_rows", "_held"] := ⟨cls_Estate, fun f hf => by
    simp only [List.mem_cons, List.not_mem_nil, or_false] at hf
    rcases hf with rfl | rfl
    · exact He.noat_ok (c.fact 74 (f := .noat "Estate" "_rows") rfl)
    · exact He.noat_ok (c.fact 75 (f := .noat "Estate" "_held") rfl)
    ⟩
  have M_is_number_below : FnOk P w K mg base (L2N.CX P w) 1 _ fd_is_number_below _ (SpF K (cm K) 2 f_is_number_below) := m_is_number_below F_is_number_below h_type h_int
  have G_is_number_below : Cal P w K mg base (cm K) "is_number_below" 1 2 ["value", "limit"] f_is_number_below := ⟨_, fd_is_number_below, M_is_number_below, g_is_number_below, F_is_number_below.kp, FunD.bindsN F_is_number_below fun _ _ _ _ _ _ us hl => match us, hl with | [_, _], _ => rfl⟩
  have M_is_list_below : FnOk P w K mg base (L2N.CX P w) 2 _ fd_is_list_below _ (SpF K (cm K) 2 f_is_list_below) := m_is_list_below F_is_list_below h_type h_list h_all G_is_number_below
  have G_is_list_below : Cal P w K mg base (cm K) "is_list_below" 2 2 ["value", "limit"] f_is_list_below := ⟨_, fd_is_list_below, M_is_list_below, g_is_list_below, F_is_list_below.kp, FunD.bindsN F_is_list_below fun _ _ _ _ _ _ us hl => match us, hl with | [_, _], _ => rfl⟩
  have M_need_table : FnOk P w K mg base (L2N.CX P w) 3 _ fd_need_table _ (SpF K (cm K) 1 f_need_table) := m_need_table F_need_table h_type h_list h_len hc_MOST_HEIRS hc_MOST_WORTH hc_MOST_THINGS e_BadTable G_is_list_below
  have G_need_table : Cal P w K mg base (cm K) "need_table" 3 1 ["table"] f_need_table := ⟨_, fd_need_table, M_need_table, g_need_table, F_need_table.kp, FunD.bindsN F_need_table fun _ _ _ _ _ _ us hl => match us, hl with | [_], _ => rfl⟩
  have M_need_worths : FnOk P w K mg base (L2N.CX P w) 3 _ fd_need_worths _ (SpF K (cm K) 2 f_need_worths) := m_need_worths F_need_worths h_len hc_MOST_WORTH e_BadTable G_is_list_below
  have G_need_worths : Cal P w K mg base (cm K) "need_worths" 3 2 ["worths", "many"] f_need_worths := ⟨_, fd_need_worths, M_need_worths, g_need_worths, F_need_worths.kp, FunD.bindsN F_need_worths fun _ _ _ _ _ _ us hl => match us, hl with | [_, _], _ => rfl⟩
  have M_need_parted : FnOk P w K mg base (L2N.CX P w) 3 _ fd_need_parted _ (SpF K (cm K) 2 f_need_parted) := m_need_parted F_need_parted h_sorted h_len h_set e_BadShares G_is_list_below
  have G_need_parted : Cal P w K mg base (cm K) "need_parted" 3 2 ["shares", "many"] f_need_parted := ⟨_, fd_need_parted, M_need_parted, g_need_parted, F_need_parted.kp, FunD.bindsN F_need_parted fun _ _ _ _ _ _ us hl => match us, hl with | [_, _], _ => rfl⟩
  have M_need_shares : FnOk P w K mg base (L2N.CX P w) 4 _ fd_need_shares _ (SpF K (cm K) 2 f_need_shares) := m_need_shares F_need_shares h_type h_list h_len e_BadShares G_need_table G_need_parted
  have G_need_shares : Cal P w K mg base (cm K) "need_shares" 4 2 ["table", "shares"] f_need_shares := ⟨_, fd_need_shares, M_need_shares, g_need_shares, F_need_shares.kp, FunD.bindsN F_need_shares fun _ _ _ _ _ _ us hl => match us, hl with | [_, _], _ => rfl⟩
  have M_need_heir : FnOk P w K mg base (L2N.CX P w) 2 _ fd_need_heir _ (SpF K (cm K) 2 f_need_heir) := m_need_heir F_need_heir h_len e_BadHeir G_is_number_below
  have G_need_heir : Cal P w K mg base (cm K) "need_heir" 2 2 ["table", "heir"] f_need_heir := ⟨_, fd_need_heir, M_need_heir, g_need_heir, F_need_heir.kp, FunD.bindsN F_need_heir fun _ _ _ _ _ _ us hl => match us, hl with | [_, _], _ => rfl⟩
  have M_total : FnOk P w K mg base (L2N.CX P w) 1 _ fd_total _ (SpF K (cm K) 2 f_total) := m_total F_total h_sum
  have G_total : Cal P w K mg base (cm K) "total" 1 2 ["row", "things"] f_total := ⟨_, fd_total, M_total, g_total, F_total.kp, FunD.bindsN F_total fun _ _ _ _ _ _ us hl => match us, hl with | [_, _], _ => rfl⟩
  have M_prefers : FnOk P w K mg base (L2N.CX P w) 2 _ fd_prefers _ (SpF K (cm K) 3 f_prefers) := m_prefers F_prefers G_total
  have G_prefers : Cal P w K mg base (cm K) "prefers" 2 3 ["row", "others", "own"] f_prefers := ⟨_, fd_prefers, M_prefers, g_prefers, F_prefers.kp, FunD.bindsN F_prefers fun _ _ _ _ _ _ us hl => match us, hl with | [_, _, _], _ => rfl⟩
  have M_envies : FnOk P w K mg base (L2N.CX P w) 5 _ fd_envies _ (SpF K (cm K) 2 f_envies) := m_envies F_envies h_enumerate G_need_shares G_prefers
  have G_envies : Cal P w K mg base (cm K) "envies" 5 2 ["table", "shares"] f_envies := ⟨_, fd_envies, M_envies, g_envies, F_envies.kp, FunD.bindsN F_envies fun _ _ _ _ _ _ us hl => match us, hl with | [_, _], _ => rfl⟩
  have M_unenvied : FnOk P w K mg base (L2N.CX P w) 1 _ fd_unenvied _ (SpF K (cm K) 2 f_unenvied) := m_unenvied F_unenvied h_any
  have G_unenvied : Cal P w K mg base (cm K) "unenvied" 1 2 ["pairs", "heirs"] f_unenvied := ⟨_, fd_unenvied, M_unenvied, g_unenvied, F_unenvied.kp, FunD.bindsN F_unenvied fun _ _ _ _ _ _ us hl => match us, hl with | [_, _], _ => rfl⟩
  have M_front_of_line : FnOk P w K mg base (L2N.CX P w) 2 _ fd_front_of_line _ (SpF K (cm K) 2 f_front_of_line) := m_front_of_line F_front_of_line h_list h_range G_unenvied
  have G_front_of_line : Cal P w K mg base (cm K) "front_of_line" 2 2 ["pairs", "many"] f_front_of_line := ⟨_, fd_front_of_line, M_front_of_line, g_front_of_line, F_front_of_line.kp, FunD.bindsN F_front_of_line fun _ _ _ _ _ _ us hl => match us, hl with | [_, _], _ => rfl⟩
  have M_ring_among : FnOk P w K mg base (L2N.CX P w) 1 _ fd_ring_among _ (SpF K (cm K) 2 f_ring_among) := m_ring_among F_ring_among 
  have G_ring_among : Cal P w K mg base (cm K) "ring_among" 1 2 ["pairs", "heirs"] f_ring_among := ⟨_, fd_ring_among, M_ring_among, g_ring_among, F_ring_among.kp, FunD.bindsN F_ring_among fun _ _ _ _ _ _ us hl => match us, hl with | [_, _], _ => rfl⟩
  have M_ring : FnOk P w K mg base (L2N.CX P w) 6 _ fd_ring _ (SpF K (cm K) 2 f_ring) := m_ring F_ring h_len h_range G_envies G_front_of_line G_ring_among
  have G_ring : Cal P w K mg base (cm K) "ring" 6 2 ["table", "shares"] f_ring := ⟨_, fd_ring, M_ring, g_ring, F_ring.kp, FunD.bindsN F_ring fun _ _ _ _ _ _ us hl => match us, hl with | [_, _], _ => rfl⟩
  have M_with_next_ones : FnOk P w K mg base (L2N.CX P w) 1 _ fd_with_next_ones _ (SpF K (cm K) 1 f_with_next_ones) := m_with_next_ones F_with_next_ones h_list h_zip
  have G_with_next_ones : Cal P w K mg base (cm K) "with_next_ones" 1 1 ["heirs"] f_with_next_ones := ⟨_, fd_with_next_ones, M_with_next_ones, g_with_next_ones, F_with_next_ones.kp, FunD.bindsN F_with_next_ones fun _ _ _ _ _ _ us hl => match us, hl with | [_], _ => rfl⟩
  have M_is_ring : FnOk P w K mg base (L2N.CX P w) 3 _ fd_is_ring _ (SpF K (cm K) 3 f_is_ring) := m_is_ring F_is_ring h_len h_set h_all G_is_list_below G_with_next_ones
  have G_is_ring : Cal P w K mg base (cm K) "is_ring" 3 3 ["pairs", "many", "heirs"] f_is_ring := ⟨_, fd_is_ring, M_is_ring, g_is_ring, F_is_ring.kp, FunD.bindsN F_is_ring fun _ _ _ _ _ _ us hl => match us, hl with | [_, _, _], _ => rfl⟩
  have M_turned : FnOk P w K mg base (L2N.CX P w) 6 _ fd_turned _ (SpF K (cm K) 3 f_turned) := m_turned F_turned h_len h_list e_BadRing G_envies G_is_ring G_with_next_ones
  have G_turned : Cal P w K mg base (cm K) "turned" 6 3 ["table", "shares", "heirs"] f_turned := ⟨_, fd_turned, M_turned, g_turned, F_turned.kp, FunD.bindsN F_turned fun _ _ _ _ _ _ us hl => match us, hl with | [_, _, _], _ => rfl⟩
  have M_need_aside : FnOk P w K mg base (L2N.CX P w) 5 _ fd_need_aside _ (SpF K (cm K) 3 f_need_aside) := m_need_aside F_need_aside h_len h_any e_BadThing G_need_shares G_is_number_below
  have G_need_aside : Cal P w K mg base (cm K) "need_aside" 5 3 ["table", "shares", "thing"] f_need_aside := ⟨_, fd_need_aside, M_need_aside, g_need_aside, F_need_aside.kp, FunD.bindsN F_need_aside fun _ _ _ _ _ _ us hl => match us, hl with | [_, _, _], _ => rfl⟩
  have M_steps : FnOk P w K mg base (L2N.CX P w) 7 _ fd_steps _ (SpF K (cm K) 3 f_steps) := m_steps F_steps h_tuple h_len h_list h_range G_need_aside G_ring G_turned G_unenvied G_envies
  have G_steps : Cal P w K mg base (cm K) "steps" 7 3 ["table", "shares", "thing"] f_steps := ⟨_, fd_steps, M_steps, g_steps, F_steps.kp, FunD.bindsN F_steps fun _ _ _ _ _ _ us hl => match us, hl with | [_, _, _], _ => rfl⟩
  have M_awarded : FnOk P w K mg base (L2N.CX P w) 8 _ fd_awarded _ (SpF K (cm K) 3 f_awarded) := m_awarded F_awarded h_list h_sorted G_steps G_turned
  have G_awarded : Cal P w K mg base (cm K) "awarded" 8 3 ["table", "shares", "thing"] f_awarded := ⟨_, fd_awarded, M_awarded, g_awarded, F_awarded.kp, FunD.bindsN F_awarded fun _ _ _ _ _ _ us hl => match us, hl with | [_, _, _], _ => rfl⟩
  have M_dealt : FnOk P w K mg base (L2N.CX P w) 9 _ fd_dealt _ (SpF K (cm K) 1 f_dealt) := m_dealt F_dealt h_len h_range G_need_table G_awarded
  have G_dealt : Cal P w K mg base (cm K) "dealt" 9 1 ["table"] f_dealt := ⟨_, fd_dealt, M_dealt, g_dealt, F_dealt.kp, FunD.bindsN F_dealt fun _ _ _ _ _ _ us hl => match us, hl with | [_], _ => rfl⟩
  have M_Estate___init__ : FnOk P w K mg base (L2N.CX P w) 2 _ fd_Estate___init__ _ (SpO K (cm K) (He.ga K "Estate") 1 (f_Estate___init__ (He.ga K "Estate"))) := m_Estate___init__ F_Estate___init__ h_range hc_MOST_HEIRS e_BadHeir G_is_number_below O_Estate
  have G_Estate___init__ : CalMk P w K mg base (cm K) (He.ga K "Estate") "Estate" 2 1 ["self", "heirs"] (f_Estate___init__ (He.ga K "Estate")) := ⟨_, fd_Estate___init__, He.mkr_ok (c.fact 67 (f := .mkr "Estate") rfl), M_Estate___init__, g_Estate___init__, FunD.bindsN F_Estate___init__ fun _ _ _ _ _ _ us hl => match us, hl with | [_, _], _ => rfl⟩
  have M_Estate_come : FnOk P w K mg base (L2N.CX P w) 9 _ fd_Estate_come _ (SpO K (cm K) (He.ga K "Estate") 1 (f_Estate_come (He.ga K "Estate"))) := m_Estate_come F_Estate_come h_len h_zip hc_MOST_THINGS e_Full G_need_worths G_awarded O_Estate
  have G_Estate_come : CalMt P w K mg base (cm K) (He.ga K "Estate") "come" 9 1 ["self", "worths"] (f_Estate_come (He.ga K "Estate")) := ⟨_, fd_Estate_come, cls_Estate, He.meth_ok (c.fact 68 (f := .meth "Estate" "come") rfl), M_Estate_come, FunD.bindsN F_Estate_come fun _ _ _ _ _ _ us hl => match us, hl with | [_, _], _ => rfl⟩
  have M_Estate_go : FnOk P w K mg base (L2N.CX P w) 9 _ fd_Estate_go _ (SpO K (cm K) (He.ga K "Estate") 1 (f_Estate_go (He.ga K "Estate"))) := m_Estate_go F_Estate_go h_len e_BadHeir G_need_heir G_awarded O_Estate
  have G_Estate_go : CalMt P w K mg base (cm K) (He.ga K "Estate") "go" 9 1 ["self", "heir"] (f_Estate_go (He.ga K "Estate")) := ⟨_, fd_Estate_go, cls_Estate, He.meth_ok (c.fact 69 (f := .meth "Estate" "go") rfl), M_Estate_go, FunD.bindsN F_Estate_go fun _ _ _ _ _ _ us hl => match us, hl with | [_, _], _ => rfl⟩
  have M_Estate_join : FnOk P w K mg base (L2N.CX P w) 10 _ fd_Estate_join _ (SpO K (cm K) (He.ga K "Estate") 1 (f_Estate_join (He.ga K "Estate"))) := m_Estate_join F_Estate_join h_len h_list hc_MOST_HEIRS e_Full G_need_worths G_dealt O_Estate
  have G_Estate_join : CalMt P w K mg base (cm K) (He.ga K "Estate") "join" 10 1 ["self", "worths"] (f_Estate_join (He.ga K "Estate")) := ⟨_, fd_Estate_join, cls_Estate, He.meth_ok (c.fact 70 (f := .meth "Estate" "join") rfl), M_Estate_join, FunD.bindsN F_Estate_join fun _ _ _ _ _ _ us hl => match us, hl with | [_, _], _ => rfl⟩
  have M_Estate_shares : FnOk P w K mg base (L2N.CX P w) 1 _ fd_Estate_shares _ (SpO K (cm K) (He.ga K "Estate") 0 (f_Estate_shares (He.ga K "Estate"))) := m_Estate_shares F_Estate_shares h_list O_Estate
  have G_Estate_shares : CalMt P w K mg base (cm K) (He.ga K "Estate") "shares" 1 0 ["self"] (f_Estate_shares (He.ga K "Estate")) := ⟨_, fd_Estate_shares, cls_Estate, He.meth_ok (c.fact 71 (f := .meth "Estate" "shares") rfl), M_Estate_shares, FunD.bindsN F_Estate_shares fun _ _ _ _ _ _ us hl => match us, hl with | [_], _ => rfl⟩
  have M_Estate_table : FnOk P w K mg base (L2N.CX P w) 1 _ fd_Estate_table _ (SpO K (cm K) (He.ga K "Estate") 0 (f_Estate_table (He.ga K "Estate"))) := m_Estate_table F_Estate_table h_list O_Estate
  have G_Estate_table : CalMt P w K mg base (cm K) (He.ga K "Estate") "table" 1 0 ["self"] (f_Estate_table (He.ga K "Estate")) := ⟨_, fd_Estate_table, cls_Estate, He.meth_ok (c.fact 72 (f := .meth "Estate" "table") rfl), M_Estate_table, FunD.bindsN F_Estate_table fun _ _ _ _ _ _ us hl => match us, hl with | [_], _ => rfl⟩
  have M__law_at : FnOk P w K mg base (L2N.CX P w) 1 _ fd__law_at _ (SpF K (cm K) 2 f__law_at) := m__law_at F__law_at h_len
  have G__law_at : Cal P w K mg base (cm K) "_law_at" 1 2 ["_law_script", "_law_k"] f__law_at := ⟨_, fd__law_at, M__law_at, g__law_at, F__law_at.kp, FunD.bindsN F__law_at fun _ _ _ _ _ _ us hl => match us, hl with | [_, _], _ => rfl⟩
  have M__law_mixed : FnOk P w K mg base (L2N.CX P w) 1 _ fd__law_mixed _ (SpF K (cm K) 2 f__law_mixed) := m__law_mixed F__law_mixed 
  have G__law_mixed : Cal P w K mg base (cm K) "_law_mixed" 1 2 ["_law_cell", "_law_k"] f__law_mixed := ⟨_, fd__law_mixed, M__law_mixed, g__law_mixed, F__law_mixed.kp, FunD.bindsN F__law_mixed fun _ _ _ _ _ _ us hl => match us, hl with | [_, _], _ => rfl⟩
  have M__law_sum : FnOk P w K mg base (L2N.CX P w) 1 _ fd__law_sum _ (SpF K (cm K) 2 f__law_sum) := m__law_sum F__law_sum 
  have G__law_sum : Cal P w K mg base (cm K) "_law_sum" 1 2 ["_law_row", "_law_things"] f__law_sum := ⟨_, fd__law_sum, M__law_sum, g__law_sum, F__law_sum.kp, FunD.bindsN F__law_sum fun _ _ _ _ _ _ us hl => match us, hl with | [_, _], _ => rfl⟩
  have M__law_copy : FnOk P w K mg base (L2N.CX P w) 1 _ fd__law_copy _ (SpF K (cm K) 1 f__law_copy) := m__law_copy F__law_copy h_list
  have G__law_copy : Cal P w K mg base (cm K) "_law_copy" 1 1 ["_law_rows"] f__law_copy := ⟨_, fd__law_copy, M__law_copy, g__law_copy, F__law_copy.kp, FunD.bindsN F__law_copy fun _ _ _ _ _ _ us hl => match us, hl with | [_], _ => rfl⟩
  have M__law_worth : FnOk P w K mg base (L2N.CX P w) 1 _ fd__law_worth _ (SpF K (cm K) 1 f__law_worth) := m__law_worth F__law_worth 
  have G__law_worth : Cal P w K mg base (cm K) "_law_worth" 1 1 ["_law_number"] f__law_worth := ⟨_, fd__law_worth, M__law_worth, g__law_worth, F__law_worth.kp, FunD.bindsN F__law_worth fun _ _ _ _ _ _ us hl => match us, hl with | [_], _ => rfl⟩
  have M__law_to : FnOk P w K mg base (L2N.CX P w) 2 _ fd__law_to _ (SpF K (cm K) 2 f__law_to) := m__law_to F__law_to h_min G__law_sum
  have G__law_to : Cal P w K mg base (cm K) "_law_to" 2 2 ["_law_row", "_law_held"] f__law_to := ⟨_, fd__law_to, M__law_to, g__law_to, F__law_to.kp, FunD.bindsN F__law_to fun _ _ _ _ _ _ us hl => match us, hl with | [_, _], _ => rfl⟩
  have M__law_put : FnOk P w K mg base (L2N.CX P w) 3 _ fd__law_put _ (SpF K (cm K) 3 f__law_put) := m__law_put F__law_put h_sorted G__law_copy G__law_to
  have G__law_put : Cal P w K mg base (cm K) "_law_put" 3 3 ["_law_row", "_law_held", "_law_things"] f__law_put := ⟨_, fd__law_put, M__law_put, g__law_put, F__law_put.kp, FunD.bindsN F__law_put fun _ _ _ _ _ _ us hl => match us, hl with | [_, _, _], _ => rfl⟩
  have M__law_moved : FnOk P w K mg base (L2N.CX P w) 12 _ fd__law_moved _ (SpO K (cm K) (He.ga K "Estate") 3 (f__law_moved (He.ga K "Estate"))) := m__law_moved F__law_moved h_len h_list h_range G__law_mixed G__law_worth G_Estate_come G__law_put G_Estate_go G_Estate_join
  have G__law_moved : CalO P w K mg base (cm K) (He.ga K "Estate") "_law_moved" 12 3 ["_law_estate", "_law_cell", "_law_row", "_law_held"] (f__law_moved (He.ga K "Estate")) := ⟨_, fd__law_moved, M__law_moved, g__law_moved, F__law_moved.kp, FunD.bindsN F__law_moved fun _ _ _ _ _ _ us hl => match us, hl with | [_, _, _, _], _ => rfl⟩
  have M__law_told : FnOk P w K mg base (L2N.CX P w) 10 _ fd__law_told _ (SpF K (cm K) 2 f__law_told) := m__law_told F__law_told h_list h_len h_range G_dealt G__law_put G__law_to G_steps G_awarded
  have G__law_told : Cal P w K mg base (cm K) "_law_told" 10 2 ["_law_row", "_law_held"] f__law_told := ⟨_, fd__law_told, M__law_told, g__law_told, F__law_told.kp, FunD.bindsN F__law_told fun _ _ _ _ _ _ us hl => match us, hl with | [_, _], _ => rfl⟩
  have M__law_looked : FnOk P w K mg base (L2N.CX P w) 3 _ fd__law_looked _ (SpO K (cm K) (He.ga K "Estate") 3 (f__law_looked (He.ga K "Estate"))) := m__law_looked F__law_looked G_Estate_table G_Estate_shares
  have G__law_looked : CalO P w K mg base (cm K) (He.ga K "Estate") "_law_looked" 3 3 ["_law_estate", "_law_row", "_law_held", "_law_way"] (f__law_looked (He.ga K "Estate")) := ⟨_, fd__law_looked, M__law_looked, g__law_looked, F__law_looked.kp, FunD.bindsN F__law_looked fun _ _ _ _ _ _ us hl => match us, hl with | [_, _, _, _], _ => rfl⟩
  have M_law : FnOk P w K mg base (L2N.CX P w) 13 _ fd_law _ (SpF K (cm K) 1 (f_law (He.ga K "Estate"))) := m_law F_law h_range G__law_at G_Estate___init__ G__law_moved G__law_looked G__law_told
  exact M_law
end P
open PySem PySem.W PySem.Calls PyProof.Rows
set_option maxRecDepth 100000 in
set_option maxHeartbeats 0 in
theorem PySem.Challenge.cw_thingdeal_k15_whole_heirs_of_one_mind_holds : PySem.Challenge.rw_thingdeal_k15_whole_heirs_of_one_mind.Holds := by
  w_on; o_law
  refine HandSHeadRun.head_any (r := OpenLaw.row PySem.Challenge.rw_thingdeal_k15_whole_heirs_of_one_mind) (q := view (OpenLaw.row PySem.Challenge.rw_thingdeal_k15_whole_heirs_of_one_mind).prog [50]) (H := P.hk) (ob := P.ob) (M := 8000) (loose := P.nms) (d := HandSHeadRun.topDef (OpenLaw.row PySem.Challenge.rw_thingdeal_k15_whole_heirs_of_one_mind).prog 50) (kwd := []) P.ob_eq
    (by kernel_rfl) (fun s => by kernel_rfl) P.run (by kernel_rfl) (by kernel_rfl) (by kernel_rfl) (by rfl) (by first | assumption | decide +kernel) (by decide +kernel) ⟨rfl, rfl, rfl, rfl, rfl, by decide +kernel⟩ ?hw ?hc
  case hw => w_witness2
  case hc =>
    refine Z.walk_w (l := PySem.Challenge.rw_thingdeal_k15_whole_heirs_of_one_mind) (n := 63) (k := 13) (x := "_law_script") (CX := L2N.CX PySem.Challenge.rw_thingdeal_k15_whole_heirs_of_one_mind.prog) rfl (by decide) (by kernel_rfl) ⟨rfl, by decide, by decide⟩ Z.cx_no ?F
    intro w mg fa h Y G hmg0
    obtain ⟨K, KX, c, hx⟩ := Y
    have hmg : mg ("law" : PySem.Str) = some (.ref fa) := by
      have e : (HandSHeadRun.topDef (OpenLaw.row PySem.Challenge.rw_thingdeal_k15_whole_heirs_of_one_mind).prog 50).name = ("law" : PySem.Str) := by kernel_rfl
      rw [← e]
      exact hmg0
    obtain ⟨fd, hb, hF⟩ := P.facts (P := (PySem.Challenge.rw_thingdeal_k15_whole_heirs_of_one_mind).prog) (w := w) KX G hmg c hx
    refine ⟨K, fd, Z.SpF K (P.cm K) 1 (P.f_law (He.ga K "Estate")), KX, hb, fun H a ns hl _ hS => ⟨H, [.dict [(.none, .list (ns.map PyData.int))]], L2.Same.refl _, .cons (.scr ns hS) .nil, rfl, ?_⟩, hF⟩
    rw [P.law_true _ ns hl]
    intro v G' H' _ hr
    cases hr
    rfl
