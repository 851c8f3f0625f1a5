import PyProof.Rows.All
import Wide.All
import OpenK.AllK
import Wide.FinOn
import HandS.ForMost
import HandS.Wide
import HandS.IsInst
import HandS.Evl
import HandS.Exc
import HandS.TryOnly
import HandS.ExcOwn
import HandS.ExcIs
import HandS.WordsExc
import HandS.ExcValue
import HandS.Strs
import HandS.SetFor
import HandS.Defaults
import HandS.MakeKw
import HandS.MakeKwOnly
import HandS.TupAny
import HandS.Style
import HandS.Walk
import HandS.Flow
import HandS.Steps
import KE.GoesEnum
import HandS.Iter
import PyProof.NeKinds
import PyProof.ReprRoads
import HandS.Ends
import HandS.Replace
import HandS.ReplaceLit
import HandS.FStr
import HandS.RaiseMore
import KE.KCallOwn
import HandS.Dict
import HandS.DictComp
import HandS.Star
import HandS.More
import HandS.Sort
import PySem.Challenge.RW_groundlots_k11_what_is_held
set_option Elab.async false
set_option linter.all false
set_option maxRecDepth 100000
set_option maxHeartbeats 4000000
/-! my own layer: opaque lists, views, steps -/
namespace Gx
open PySem PySem.Spec PyProof.Rows L2 Evl

/-! ### a list known by a property alone -/
def isL (p : Addr) (G : List V → Prop) : Heap → Prop := fun h => ∃ xs, G xs ∧ xs.length ≤ sizeLine ∧ ∃ (its : List Value) (n : Nat), Vals xs its ∧ h.get? p = some { cls := .type "list", data := .seq its.toArray n }
def oL (p : Addr) (G : List V → Prop) : HO := .ext (isL p G)

/-- the same but for what stands at lists and opaque lists -/
def Shp (A B : Hp) : Prop := ∀ b, A b = B b ∨ (((∃ xs, A b = some (.lst xs)) ∨ ∃ φ, A b = some (.ext φ)) ∧ ((∃ xs, B b = some (.lst xs)) ∨ ∃ φ, B b = some (.ext φ)))
theorem Shp.refl (A : Hp) : Shp A A := fun _ => .inl rfl
theorem Shp.symm {A B : Hp} (s : Shp A B) : Shp B A := fun b => by
  rcases s b with h | ⟨h1, h2⟩
  · exact .inl h.symm
  · exact .inr ⟨h2, h1⟩
theorem Shp.none {A B : Hp} (s : Shp A B) {b : Addr} (h : A b = none) : B b = none := by
  rcases s b with e | ⟨h1, _⟩
  · rw [← e]; exact h
  · rcases h1 with ⟨_, h1⟩ | ⟨_, h1⟩ <;> (rw [h] at h1; cases h1)
theorem Shp.tup {A B : Hp} (s : Shp A B) {b : Addr} {xs : List V} (h : A b = some (.tup xs)) : B b = some (.tup xs) := by
  rcases s b with e | ⟨h1, _⟩
  · rw [← e]; exact h
  · rcases h1 with ⟨_, h1⟩ | ⟨_, h1⟩ <;> (rw [h] at h1; cases h1)
theorem Shp.own {A B : Hp} (s : Shp A B) {b x : Addr} (h : A b = some (.own x)) : B b = some (.own x) := by
  rcases s b with e | ⟨h1, _⟩
  · rw [← e]; exact h
  · rcases h1 with ⟨_, h1⟩ | ⟨_, h1⟩ <;> (rw [h] at h1; cases h1)
theorem Shp.frz {A B : Hp} (s : Shp A B) {b : Addr} {o : Obj} {u : HO} (h : A b = some (.frz o u)) : B b = some (.frz o u) := by
  rcases s b with e | ⟨h1, _⟩
  · rw [← e]; exact h
  · rcases h1 with ⟨_, h1⟩ | ⟨_, h1⟩ <;> (rw [h] at h1; cases h1)
theorem Shp.tbl {A B : Hp} (s : Shp A B) {b : Addr} {ps : Array Value} (h : A b = some (.tbl ps)) : B b = some (.tbl ps) := by
  rcases s b with e | ⟨h1, _⟩
  · rw [← e]; exact h
  · rcases h1 with ⟨_, h1⟩ | ⟨_, h1⟩ <;> (rw [h] at h1; cases h1)
theorem Shp.trans {A B C : Hp} (s : Shp A B) (t : Shp B C) : Shp A C := fun b => by
  rcases s b with e | ⟨h1, h2⟩
  · rw [e]; exact t b
  · rcases t b with e' | ⟨_, h4⟩
    · rw [← e']; exact .inr ⟨h1, h2⟩
    · exact .inr ⟨h1, h4⟩
theorem Shp.upd {A : Hp} {p : Addr} {o : HO} (h : (∃ xs, A p = some (.lst xs)) ∨ ∃ φ, A p = some (.ext φ)) (ho : (∃ xs, o = .lst xs) ∨ ∃ φ, o = .ext φ) : Shp A (upd A p o) := fun b => by
  by_cases e : b = p
  · subst e
    refine .inr ⟨h, ?_⟩
    rcases ho with ⟨xs, rfl⟩ | ⟨φ, rfl⟩
    · exact .inl ⟨xs, upd_same⟩
    · exact .inr ⟨φ, upd_same⟩
  · exact .inl (upd_ne e).symm
section
variable {P : Program} {w : World} {K : PySem.W.Frag} {mg : Str → Option Value} {base : Heap}
theorem Un.shp {fs ex : List Addr} {A A' B B' : Hp} {h h' : Heap} (u : Un fs ex A B h h') (s : Shp A A') (t : Shp B B') : Un fs ex A' B' h h' where
  keep := fun b o e n hf hx => u.keep b o e (s.symm.none n) hf hx
  slot := fun b o e n hf hx => u.slot b o e (s.symm.none n) hf hx
  free := fun b o e n hx => t.none (u.free b o e (s.symm.none n) hx)
  there := u.there
  tups := fun b xs e => t.tup (u.tups b xs (s.symm.tup e))
  frzs := fun b o x e => t.frz (u.frzs b o x (s.symm.frz e))
  tbls := fun b ps e => by
    obtain ⟨m, e2⟩ := u.tbls b ps (s.symm.tbl e)
    exact ⟨m, t.tbl e2⟩
/-- one entry another -/
theorem HOk.swap {A : Hp} {h : Heap} {p : Addr} {o : HO} (x : HOk P w A h) (s : Shp A (upd A p o)) (new : ObjOk P w (upd A p o) h p o) : HOk P w (upd A p o) h := fun b u e => by
  by_cases hb : b = p
  · subst hb; rw [upd_same] at e; cases e; exact new
  · rw [upd_ne hb] at e
    exact (x b u e).stay (fun _ _ _ q => q) (fun c q => s.own q) (fun c xs q => s.tup q)
theorem isL_mono {p : Addr} {G : List V → Prop} : ∀ h1 h2 : Heap, isL p G h1 → (∀ o, h1.get? p = some o → h2.get? p = some o) → isL p G h2 := fun h1 h2 ⟨xs, g, z, its, n, r, e⟩ k => ⟨xs, g, z, its, n, r, k _ e⟩
/-- an opaque list opened -/
theorem HOk.openL {A : Hp} {h : Heap} {p : Addr} {G : List V → Prop} (x : HOk P w A h) (e : A p = some (oL p G)) : ∃ xs, G xs ∧ HOk P w (upd A p (.lst xs)) h ∧ Shp A (upd A p (.lst xs)) := by
  obtain ⟨⟨xs, g, z, its, n, r, q⟩, _, _⟩ := (show ObjOk P w A h p (oL p G) from x p _ e)
  have s : Shp A (upd A p (.lst xs)) := Shp.upd (.inr ⟨_, e⟩) (.inl ⟨xs, rfl⟩)
  exact ⟨xs, g, HOk.swap x s ⟨z, its, n, r, q⟩, s⟩
theorem HOk.shutL {A : Hp} {h : Heap} {p : Addr} {G : List V → Prop} {xs : List V} (x : HOk P w A h) (e : A p = some (.lst xs)) (g : G xs) : HOk P w (upd A p (oL p G)) h ∧ Shp A (upd A p (oL p G)) := by
  obtain ⟨z, its, n, r, q⟩ := (show ObjOk P w A h p (.lst xs) from x p _ e)
  have s : Shp A (upd A p (oL p G)) := Shp.upd (.inl ⟨_, e⟩) (.inr ⟨_, rfl⟩)
  exact ⟨HOk.swap x s ⟨⟨xs, g, z, its, n, r, q⟩, ⟨_, q⟩, isL_mono⟩, s⟩
/-- a promise over another view of the heap -/
theorem FnOk.view {k : Nat} {f : Addr} {fd : FuncData} {ps : List Str} {sp sp' : Sp} (F : FnOk P w K mg base CX0 k f fd ps sp) (len : ∀ vs H Q E, sp' vs H Q E → vs.length = ps.length)
    (h : ∀ vs H Q E, sp' vs H Q E → ∀ hp : Heap, HOk P w H hp → ∃ H0, HOk P w H0 hp ∧ Shp H H0 ∧ sp vs H0 (fun v H1 => ∀ hp' : Heap, HOk P w H1 hp' → ∃ H2, HOk P w H2 hp' ∧ Shp H1 H2 ∧ Q v H2) E) : FnOk P w K mg base CX0 k f fd ps sp' := by
  refine ⟨len, fun A outer s H args us vs Q E hr he hb hv hs => ?_⟩
  obtain ⟨H0, ok0, s0, q0⟩ := h vs H Q E hs s.heap he.hok
  refine codeAny_mono (F.run A outer s H0 args us vs _ E hr ⟨he.frames, he.mod, fun b o e => ⟨(he.bs b o e).1, s0.none (he.bs b o e).2⟩, he.bsz, he.funs, fun b hb => s0.none (he.frf b hb), ok0, he.bare⟩ hb hv q0) fun r s' hq => ?_
  cases r with
  | error e => exact False.elim hq
  | ok fl =>
    cases fl with
    | ret u =>
      obtain ⟨v, H1, os, bare, un, hok, r, q⟩ := hq
      obtain ⟨H2, ok2, s2, q2⟩ := q _ hok
      exact ⟨v, H2, os, bare, Un.shp un s0.symm s2, ok2, r, q2⟩
    | next => exact False.elim hq
    | brk => exact False.elim hq
    | cont => exact False.elim hq
end
end Gx

/-! texts: the mathematics -/
namespace Gx
open PySem PySem.Spec PyProof.Rows L2 Evl

/-! ### texts -/
def okS (z : Str) : Prop := ∀ c ∈ z.cps.toList, c < 1114112
theorem okS_iff (z : Str) : PyData.strOk z = true ↔ okS z := by
  unfold PyData.strOk okS
  rw [← Array.all_toList, List.all_eq_true]
  constructor
  · intro h c hc; exact of_decide_eq_true (h c hc)
  · intro h c hc; exact decide_eq_true (h c hc)
theorem okS_app {a b : Str} (ha : okS a) (hb : okS b) : okS (a ++ b) := fun c hc => by
  rw [show (a ++ b).cps.toList = a.cps.toList ++ b.cps.toList from TL.tl_append a b] at hc
  rcases List.mem_append.mp hc with h | h
  · exact ha c h
  · exact hb c h
theorem len_tl (z : Str) : z.cps.toList.length = z.length := Array.length_toList
theorem len_app (a b : Str) : (a ++ b).length = a.length + b.length := by
  rw [← len_tl, ← len_tl, ← len_tl, show (a ++ b).cps.toList = a.cps.toList ++ b.cps.toList from TL.tl_append a b, List.length_append]
theorem joinL_flat : ∀ ps : List (List Nat), TL.joinL [] ps = ps.flatten
  | [] => rfl
  | [p] => by show p = [p].flatten; simp
  | p :: q :: r => by
    show p ++ ([] ++ TL.joinL [] (q :: r)) = (p :: q :: r).flatten
    rw [joinL_flat (q :: r), List.nil_append]; rfl
theorem join_flat (ys : List Str) : (Txt.join ("" : Str) ys).cps.toList = (ys.map fun y => y.cps.toList).flatten := by
  have h := TL.tl_join ("" : Str) ys
  rw [show TL.tl ("" : Str) = [] by decide +kernel, joinL_flat] at h
  rw [TL.join_eq]
  exact h
theorem okS_cut {z : Str} {lo hi : Option Int} (h : okS z) : okS (cutS z lo hi) := fun c hc => h c (List.mem_of_mem_drop (List.mem_of_mem_take hc))
theorem okS_sgn {z : Str} {c : Nat} (h : okS z) (hc : c ∈ z.cps.toList) : okS ⟨#[c]⟩ := fun d hd => by
  have e : d = c := by simpa using hd
  rw [e]; exact h c hc
theorem len_sgn (c : Nat) : (⟨#[c]⟩ : Str).length = 1 := rfl
end Gx

/-! an error that is caught and kept: it is known from then on, by its class and its own dict -/
namespace Gx
open PySem PySem.Spec PyProof.Rows L2 Evl
/-- an error object at a, of the class cls, its own dict d -/
def ExK (cls : Value) (d : Option Addr) (a : Addr) : HO := .ext fun h => ∃ (oe : Obj) (vs : Array Value), h.get? a = some oe ∧ Zc cls d oe ∧ oe.data = .fields vs
section
variable {X : Cx} {pins : List (Addr × Obj)} {σ : L2.St} {H : Hp} {s : Shared}
theorem exK_ok {P : Program} {w : World} {H : Hp} {h : Heap} {a : Addr} {cls : Value} {d : Option Addr} {oe : Obj} {vs : Array Value} (e : h.get? a = some oe) (z : Zc cls d oe) (f : oe.data = .fields vs) : ObjOk P w H h a (ExK cls d a) :=
  ⟨⟨oe, vs, e, z, f⟩, ⟨oe, e⟩, fun _ _ ⟨o, v, e1, z1, f1⟩ k => ⟨o, v, k o e1, z1, f1⟩⟩
/-- an object of ours, new behind the entry, is tracked from here on -/
theorem track {a : Addr} {oe : Obj} {vs : Array Value} {o : HO} (I : Inv X pins σ H s) (e : s.heap.get? a = some oe) (f : oe.data = .fields vs) (na : H a = none) (n0 : X.s_0.heap.get? a = none) (nL : a ≠ X.env.locals)
    (np : ∀ p ∈ X.pn ++ pins, p.1 ≠ a) (ok : ObjOk X.prog X.w (upd H a o) s.heap a o) : Inv X pins σ (upd H a o) s := by
  have old : ∀ b u, X.s_0.heap.get? b = some u → b ≠ a := fun b u q z => by rw [z, n0] at q; cases q
  have oth : ∀ {b u}, H b = some u → (upd H a o) b = some u := fun {b u} q => by rw [upd_ne (ne_of_none q na)]; exact q
  refine ⟨I.ok, I.os, I.bare, ⟨I.base.keep, I.base.slot, ?_, I.base.there, ?_, ?_, ?_⟩, I.loc, I.cell, ?_, ?_, ?_, HOk.laidN I.hok (fun _ _ q => q) na ok, I.len⟩
  · intro b u q n x
    rw [upd_ne (old b u q)]
    exact I.base.free b u q n x
  · intro b xs q
    exact oth (I.base.tups b xs q)
  · intro b u x q
    exact oth (I.base.frzs b u x q)
  · intro b ps q
    obtain ⟨m, r⟩ := I.base.tbls b ps q
    exact ⟨m, oth r⟩
  · rw [upd_ne (Ne.symm nL)]
    exact I.free
  · intro x c q
    obtain ⟨v, cl⟩ := I.cell x c q
    have ca : c ≠ a := by
      rintro rfl
      obtain ⟨oc, ec, fc⟩ := cl
      rw [e] at ec
      cases ec
      rw [f] at fc
      cases fc
    rw [upd_ne ca]
    exact I.freeC x c q
  · intro p hp
    obtain ⟨r1, r2, r3⟩ := I.pin p hp
    exact ⟨r1, by rw [upd_ne (np p hp)]; exact r2, r3⟩
end
/-- the ends of a suite that holds the error at a in slot i -/
def Ends.kept (D : Ends) (i : Nat) (a : Addr) (cls : Value) (d : Option Addr) : Ends where
  nx := fun σ' H' => D.nx (σ'.set i none) (upd H' a (ExK cls d a))
  rt := fun v H' => D.rt v (upd H' a (ExK cls d a))
  bk := fun σ' H' => D.bk (σ'.set i none) (upd H' a (ExK cls d a))
  ct := fun σ' H' => D.ct (σ'.set i none) (upd H' a (ExK cls d a))
/-- what `except c as n: suite` asks of an error that leaves the body -/
def wKeep (K : PySem.W.Frag) (c : Value) (i : Nat) (ts : Addr → Value → Option Addr → TS) (D : Ends) : WX := fun cls d σ' H' =>
  PySem.W.exmOne K cls c = some true ∧ ∀ a : Addr, H' a = none → ts a cls d (Ends.kept D i a cls d) (σ'.set i (some (.ref a))) H'
section
variable {X : Cx} {x n : Str} {c : Value} {i : Nat} {body suite : List Stmt} {b1 : Stmt} {p1 p2 p3 : Pos} {tb : WX → TS} {ts : Addr → Value → Option Addr → TS}
theorem ps_try_keep (noX : X.ex = []) (top : X.stack = X.env :: X.outer) (own : X.env.frame = some X.env.locals) (nd : X.N.Nodup) (at_i : X.N[i]? = some n) (loc : X.env.kindOf n = some .local) (nm : Names X x c)
    (B1 : ∀ (W : WX) (q : List (Addr × Obj)) (ex : Value → Shared → Prop), Takes (X.tr q ex) W → PassesOwn (model X.prog X.w) X.A X.env ex → PSs (X.tr q ex) body (tb W))
    (S1 : ∀ (a : Addr) (u : Obj) (cls : Value) (d : Option Addr) (q : List (Addr × Obj)), Zc cls d u → (∃ vs, u.data = .fields vs) → PSs (X.suite a ((a, u) :: q)) (b1 :: suite) (ts a cls d)) :
    PS X (.Try body [.ExceptHandler (some (.Name x p1)) (some n) (b1 :: suite) p2] [] [] p3) (fun D σ H => tb (wKeep X.K c i ts D) D σ H) := by
  constructor
  intro pins s σ H D I hyp
  have okX := I.ok
  have frX : X.A.frames = some (X.env :: X.outer) := okX.frames.trans (congrArg some top)
  apply wpAny_Try_except
  have run := (B1 (wKeep X.K c i ts D) (X.pn ++ pins) (fun e t1 => wpAny (model X.prog X.w) X.A (noteFrame e X.env) (fun _ t2 => wpAny (model X.prog X.w) X.A (setFlight e none) (fun _ t3 =>
    wpAny (model X.prog X.w) X.A (handleBy e X.env [.ExceptHandler (some (.Name x p1)) (some n) (b1 :: suite) p2]) (SP X pins D) X.xe t3) X.xe t2) X.xe t1) ?caught PassesOwn.looking).run [] s σ H D (I.toTry _) hyp
  case caught =>
    rintro _ t ⟨a, B, tI, q, σ1, H1, cls, d, rfl, IT, ground, lift, sky, fresh, eos, bare, isb, yes⟩
    have J := IT.ofTry okX
    rw [show (X.tr (X.pn ++ pins) _).stack = X.env :: X.outer from top] at sky
    refine Sky.land Zc.steady frX own sky fun g1 fly1 lift1 => ?_
    obtain ⟨u1, vs1, gu1, zu1, du1⟩ := fly1.there
    have notin : a ∉ frs (X.env :: X.outer) := fun mem => by
      obtain ⟨_, u2, gu2, plain⟩ := fly1.2.2.1.mem mem
      rw [gu1] at gu2
      cases gu2
      exact plain _ du1
    have aL : a ≠ X.env.locals := fun z => notin (List.mem_filterMap.mpr ⟨X.env, .head _, own.trans (congrArg some z.symm)⟩)
    have aF : a ∉ X.fs := fun mem => by
      obtain ⟨e1, h1, h2⟩ := List.mem_filterMap.mp mem
      exact notin (List.mem_filterMap.mpr ⟨e1, .tail _ h1, h2⟩)
    -- the ground lacks a, so the state ahead lacks it too
    have lackB : B.get? a = none := fly1.2.1
    have lackI : tI.heap.get? a = none := by
      cases q : tI.heap.get? a with
      | none => rfl
      | some o =>
        have z := ground a o q (by rw [show (X.tr (X.pn ++ pins) _).stack = X.env :: X.outer from top]; exact notin)
        rw [lackB] at z
        cases z
    have lack0 : X.s_0.heap.get? a = none := by
      cases q : X.s_0.heap.get? a with
      | none => rfl
      | some o =>
        obtain ⟨o2, z⟩ := J.base.there a o q (by rw [noX]; exact List.not_mem_nil)
        rw [lackI] at z
        cases z
    have landed : ∀ {g : Heap}, B.StaysIn g → tI.heap.UpToSlots g → Inv X pins σ1 H1 { t with heap := g } := fun st up => J.landed (B := B) (fun b o e nb => ground b o e nb) st up eos bare
    have J1 := landed fly1.1 (lift.trans lift1)
    have pinsLack : ∀ p ∈ X.pn ++ pins, p.1 ≠ a := fun p hp z => by
      have r := (J.pin p hp).1
      rw [z, lackI] at r
      cases r
    refine wpAny_handleBy_cons (codeAny_handlers_test ?_) (by intro z; cases z)
    have kind : PySem.W.Looks (model X.prog X.w) g1 (typeOf (.ref a)) cls := fun _ _ _ _ k1 k2 => wpAny_typeOf_ref (k1 _ _ gu1) (by rw [zu1.1]; exact k2)
    have answer := PySem.W.exm_one (M := model X.prog X.w) J1.kIn kind isb
    have named : ∀ {Q : Value → Shared → Prop} {E : Value → Shared → Prop}, Q c { t with heap := g1 } → wpAny (model X.prog X.w) (X.A.mark (some (.ref a))) (eval (.Name x p1) X.env) Q E { t with heap := g1 } := fun {Q E} k => by
      have JS := J1.suite gu1 du1 fresh aL aF
      obtain ⟨gl, ndb, own1 | ⟨no1, bb, nn⟩⟩ := nm
      · exact ld_glob (X := X.suite a ((a, u1) :: (X.pn ++ pins))) JS gl own1 k ndb
      · exact ld_blt (X := X.suite a ((a, u1) :: (X.pn ++ pins))) JS gl no1 bb k nn ndb
    refine named (answer.here ?_)
    refine codeAny_handlers_suite_as (HandSPX.lands_againZ fly1 fun g2 fly2 lift2 => ?_)
    obtain ⟨u2, vs2, gu2, zu2, du2⟩ := fly2.there
    have J2 := landed fly2.1 ((lift.trans lift1).trans lift2)
    refine store_ok (X := X.suite a ((a, u2) :: (X.pn ++ pins))) (v := .ref a) (J2.suite gu2 du2 fresh aL aF) nd at_i (.inl loc) rfl (fun t5 J5 => ?_) (.inr loc)
    refine thnF ((S1 a u2 cls d (X.pn ++ pins) zu2 ⟨_, du2⟩).run [] t5 _ H1 _ J5 (yes a fresh)) fun f t6 hf => ?_
    have close : ∀ {σ6 : L2.St} {H6 : Hp} {Q : Shared → Prop}, Inv (X.suite a ((a, u2) :: (X.pn ++ pins))) [] σ6 H6 t6 → (∀ t7, Inv X pins (σ6.set i none) (upd H6 a (ExK cls d a)) t7 → Q t7) →
        wpAny (model X.prog X.w) X.A (do bindName X.env n .none; unbindBehindTheSuite X.env n p2) (fun _ t7 => Q t7) X.xe t6 := fun {σ6 H6 Q} J6 k => by
      obtain ⟨r1, r2, _⟩ := J6.pin (a, u2) (List.mem_append_left _ (.head _))
      have J7 : Inv X pins σ6 H6 t6 := J6.unsuite okX
      exact gone_ok (track J7 r1 du2 r2 lack0 aL pinsLack (exK_ok r1 zu2 du2)) nd at_i loc k
    cases f with
    | next =>
      obtain ⟨σ6, H6, J6, r⟩ := hf
      exact close J6 fun t7 J7 => ⟨_, _, J7, r⟩
    | brk =>
      obtain ⟨σ6, H6, J6, r⟩ := hf
      exact close J6 fun t7 J7 => ⟨_, _, J7, r⟩
    | cont =>
      obtain ⟨σ6, H6, J6, r⟩ := hf
      exact close J6 fun t7 J7 => ⟨_, _, J7, r⟩
    | ret v =>
      obtain ⟨w6, σ6, H6, J6, rv, r⟩ := hf
      exact close J6 fun t7 J7 => ⟨_, _, _, J7, rv, r⟩
  refine wpAny_mono run (fun f t ht => ?_) (fun e t he => he)
  cases f with
  | next =>
    obtain ⟨σ2, H2, J2, r⟩ := ht
    exact wpAny_execs_nil ⟨σ2, H2, J2.ofTry okX, r⟩
  | brk =>
    obtain ⟨σ2, H2, J2, r⟩ := ht
    exact ⟨σ2, H2, J2.ofTry okX, r⟩
  | cont =>
    obtain ⟨σ2, H2, J2, r⟩ := ht
    exact ⟨σ2, H2, J2.ofTry okX, r⟩
  | ret v =>
    obtain ⟨v2, σ2, H2, J2, rv, r⟩ := ht
    exact ⟨v2, σ2, H2, J2.ofTry okX, rv, r⟩
end
end Gx

/-! set(xs) of texts, any number below the scan's bound: its size -/
namespace Gx
open PySem PySem.Spec PyProof.Rows L2 Evl
/-- the unlike texts among the first i -/
def metS (xs : List Str) : List Str := xs.foldl (fun acc x => if x ∈ acc then acc else acc ++ [x]) []
theorem metS_snoc (xs : List Str) (x : Str) : metS (xs ++ [x]) = if x ∈ metS xs then metS xs else metS xs ++ [x] := by
  unfold metS; rw [List.foldl_append]; rfl
theorem metS_mem : ∀ (n : Nat) (xs : List Str), xs.length = n → ∀ k, k ∈ metS xs ↔ k ∈ xs
  | 0, xs, h, k => by rw [List.length_eq_zero_iff.mp h]; exact Iff.rfl
  | n + 1, xs, h, k => by
    have hne : xs ≠ [] := by intro e; rw [e] at h; cases h
    obtain ⟨ys, y, rfl⟩ : ∃ ys y, xs = ys ++ [y] := ⟨xs.dropLast, xs.getLast hne, (List.dropLast_concat_getLast hne).symm⟩
    have ih := metS_mem n ys (by simpa using h)
    rw [metS_snoc]
    by_cases hy : y ∈ metS ys
    · rw [if_pos hy, List.mem_append, List.mem_singleton, ih k]
      constructor
      · exact Or.inl
      · rintro (q | rfl)
        · exact q
        · exact (ih k).mp hy
    · rw [if_neg hy, List.mem_append, List.mem_append, ih k]
theorem metS_len : ∀ (n : Nat) (xs : List Str), xs.length = n → (metS xs).length ≤ n ∧ ((metS xs).length = n ↔ xs.Nodup)
  | 0, xs, h => by rw [List.length_eq_zero_iff.mp h]; exact ⟨Nat.le_refl _, by simp [metS]⟩
  | n + 1, xs, h => by
    have hne : xs ≠ [] := by intro e; rw [e] at h; cases h
    obtain ⟨ys, y, rfl⟩ : ∃ ys y, xs = ys ++ [y] := ⟨xs.dropLast, xs.getLast hne, (List.dropLast_concat_getLast hne).symm⟩
    have hl : ys.length = n := by simpa using h
    obtain ⟨i1, i2⟩ := metS_len n ys hl
    have mem := metS_mem n ys hl y
    rw [metS_snoc, List.nodup_append]
    by_cases hy : y ∈ metS ys
    · rw [if_pos hy]
      refine ⟨by omega, ⟨fun e => by omega, fun ⟨_, _, q⟩ => absurd rfl (q y (mem.mp hy) y (by simp))⟩⟩
    · rw [if_neg hy, List.length_append]
      refine ⟨by simp; omega, ⟨fun e => ⟨i2.mp (by simp at e; omega), by simp, fun a ha b hb e2 => hy (mem.mpr (by rw [List.mem_singleton.mp hb] at e2; rw [← e2]; exact ha))⟩, fun ⟨q, _, _⟩ => by have := i2.mpr q; simp; omega⟩⟩
section
variable {P : Program} {w : World} {A : Around} {E : Value → Shared → Prop} {s : Shared}
/-- the loop that fills the set, from the i-th item on -/
theorem fill_texts {R : Result → Shared → Prop} {I : Addr} {fp wr : List Addr} {G : Array GenState → Array GenState → Prop} {n : Nat} {Pv : Nat → Value → Prop} {St : Nat → Shared → Prop}
    (W : WalksS P w A.in1 I fp wr G n Pv St) {S : Addr} (out : S ∉ fp) {xs : List Str} (hn : xs.length = n) (few : n + 1 < scanBound) (item : ∀ i v, Pv i v → ∃ x t, xs[i]? = some x ∧ v = .str x t) :
    ∀ (left i : Nat) (s : Shared), i + left = n → St i s → s.heap.SetOf (PySem.strKind P w) S (fun k => decide (k ∈ metS (xs.take i))) (metS (xs.take i)).length →
      (∀ s', Moved (S :: wr) G s s' → s'.heap.SetOf (PySem.strKind P w) S (fun k => decide (k ∈ metS xs)) (metS xs).length → R (.ok (.ret .none)) s') →
      codeAny (model P w) A (.builtin "set.update.loop" ⟨[.ref S, .ref I], []⟩) R s := by
  have outw : S ∉ wr := fun z => out (W.sub _ z)
  have more : ∀ b ∈ wr, b ∈ S :: wr := fun _ z => .tail _ z
  have stays : ∀ {s1 s2 : Shared} {f : Str → Bool} {c : Nat}, Moved wr G s1 s2 → s1.heap.SetOf (PySem.strKind P w) S f c → s2.heap.SetOf (PySem.strKind P w) S f c := fun {s1 s2 f c} mv ⟨o, es, ep, tb, e, r⟩ => ⟨o, es, ep, tb, mv.heap S _ outw e, r⟩
  intro left
  induction left with
  | zero =>
    intro i s hi st set0 fin
    have e : xs.take i = xs := List.take_of_length_le (by omega)
    rw [e] at set0
    refine codeAny_builtin F.entry_set_update_loop ?_
    rw [Around.under_plainId F.plain_set_update_loop _]
    have hi' : i = n := by omega
    subst hi'
    show wpAny _ A.in1 (pyNext (.ref I) >>= _) _ _ s
    exact wpAny_bind (W.done s _ _ st fun s1 mv => wpAny_pure (fin s1 (mv.mono more) (stays mv set0)))
  | succ left ih =>
    intro i s hi st set0 fin
    refine codeAny_builtin F.entry_set_update_loop ?_
    rw [Around.under_plainId F.plain_set_update_loop _]
    show wpAny _ A.in1 (pyNext (.ref I) >>= _) _ _ s
    refine wpAny_bind (W.item i s _ _ (by omega) st fun v s1 hv st1 mv => ?_)
    obtain ⟨x, t, hx, rfl⟩ := item i v hv
    have len1 := (metS_len (xs.take i).length (xs.take i) rfl).1
    rw [List.length_take] at len1
    show wpAny _ A.in1 (holding [Value.str x t] (setAdd S (.str x t)) >>= _) _ _ s1
    refine wpAny_bind (wpAny_holding ?_)
    unfold setAdd
    refine wpAny_holding (wpAny_bind ((PySem.strKind P w).pyHash (k := x) (strKind_is _ _ _ _) ?_))
    refine wpAny_setAddHashed_of (knd := PySem.strKind P w) (s := { s1 with toks := s1.toks + 1 }) (strKind_is _ _ _ _) rfl (show s1.heap.SetOf _ _ _ _ from stays mv set0) (by omega) fun h1 but set1 => ?_
    have grow : xs.take (i + 1) = xs.take i ++ [x] := by rw [List.take_add_one, hx]; rfl
    have set2 : h1.SetOf (PySem.strKind P w) S (fun k => decide (k ∈ metS (xs.take (i + 1)))) (metS (xs.take (i + 1))).length := by
      refine SetOf_congr set1 (fun k => ?_) ?_
      · show (decide (k ∈ metS (xs.take i)) || decide (k = x)) = _
        rw [grow, metS_snoc, Bool.eq_iff_iff]
        by_cases hm : x ∈ metS (xs.take i)
        · rw [if_pos hm]
          simp only [Bool.or_eq_true, decide_eq_true_eq]
          exact ⟨fun q => q.elim id fun e => e ▸ hm, Or.inl⟩
        · rw [if_neg hm]
          simp
      · show (if decide (x ∈ metS (xs.take i)) = true then _ else _) = _
        rw [grow, metS_snoc]
        by_cases hm : x ∈ metS (xs.take i)
        · rw [if_pos hm, if_pos (decide_eq_true hm)]
        · rw [if_neg hm, if_neg (by simpa using hm), List.length_append]; rfl
    refine wpAny_pure ⟨plainId_quiet F.plain_set_update_loop _, ih (i + 1) _ (by omega) (W.frame _ s1 _ _ st1 (Nat.le_succ _) fun b hb o e => ?_) set2 fun s3 mv3 set3 => fin s3 (Moved.trans W.gtrans ((mv.mono more).then_heap (Nat.le_succ _) fun b o hb e => ?_) mv3) set3⟩
    · rw [but.2 b (by rintro rfl; exact out hb)]; exact e
    · rw [but.2 b (by rintro rfl; exact hb (.head _))]; exact e
set_option maxHeartbeats 8000000 in
/-- set(l), l a list or a tuple of texts -/
theorem make_set {l : Addr} {items : Array Value} {xs : List Str} {Q : Value → Shared → Prop} (calm : A.handled = none) (src : s.heap.IsList l items ∨ s.heap.IsTuple l items) (vals : ∀ (i : Nat) v, items[i]? = some v → ∃ x t, xs[i]? = some x ∧ v = .str x t)
    (hn : xs.length = items.size) (few : items.size + 1 < scanBound)
    (k : ∀ (h' : Heap) (tk : Nat), h'.SetOf (PySem.strKind P w) s.heap.objs.size (fun k => decide (k ∈ metS xs)) (metS xs).length → (∀ b o, b < s.heap.objs.size → s.heap.get? b = some o → h'.get? b = some o) → Q (.ref s.heap.objs.size) { s with heap := h', toks := tk }) :
    wpAny (model P w) A (call (.type "set") [.ref l]) Q E s := by
  obtain ⟨c, tl, hmro⟩ := F.called_set.mro
  have hmade := F.called_set.made
  have hsub := F.called_set.sub
  have h1 := F.called_set.notType
  have h2 := F.called_set.canCreate
  have hct := F.typeCall_set_1 (.ref l)
  refine wpAny_call (codeAny_of_tree (show wpAny _ _ (callAny (.type "set") _) _ _ _ from wpAny_pure ⟨Code.quiet_builtin _ (by decide +kernel), codeAny_builtin F.entry_type_call ?_⟩))
  rw [Around.under_plain (weight_type_call_type "set" [.ref l] []) rfl]
  repeat (any_goals (first | assumption | wp_step))
  let fresh : Bool → Obj := fun led => { cls := .type "set", dict := none, data := .set #[] 0 (.fresh 0 0 led) }
  refine codeAny_mono (code_set_new_1 (.ref l) (E := E) (Q₁ := fun o t => ∃ led, o = .ref s.heap.objs.size ∧ t = { s with heap := s.heap.push (fresh led) }) fun led => ⟨led, rfl, rfl⟩) fun r t hr => ?_
  rcases r with e | fl
  · exact hr
  cases fl with
  | next => exact hr.elim
  | brk => exact hr.elim
  | cont => exact hr.elim
  | ret o =>
    obtain ⟨led, rfl, rfl⟩ := hr
    have at_S : (s.heap.push (fresh led)).get? s.heap.objs.size = some (fresh led) := Heap.get?_push_size _ rfl
    have kind_S : Shared.TypeIs { s with heap := s.heap.push (fresh led) } (.ref s.heap.objs.size) "set" := ⟨_, at_S, rfl⟩
    have hli := F.called_set.init.lookup
    have hbi := F.called_set.init.bind (.ref s.heap.objs.size)
    repeat (any_goals (first | assumption | wp_step))
    let Done : Value → Shared → Prop := fun r t => r = .none ∧ ∃ h' tk, t = { s with heap := h', toks := tk } ∧ h'.SetOf (PySem.strKind P w) s.heap.objs.size (fun k => decide (k ∈ metS xs)) (metS xs).length ∧ ∀ b o, b < s.heap.objs.size → s.heap.get? b = some o → h'.get? b = some o
    refine codeAny_mono (codeAny_call_builtin (R := wants Done E) F.called_set.init.plain F.entry_set_init (check_set_init_1 kind_S ?_)) fun r t hr => ?_
    · -- __init__ walks l
      have quiet : A.in1.in1.in1.handled = none := by simp [calm]
      have empty : ∀ {itr : Obj}, ((s.heap.push (fresh led)).push itr).SetOf (PySem.strKind P w) s.heap.objs.size (fun k => decide (k ∈ metS (xs.take 0))) (metS (xs.take 0)).length := fun {itr} =>
        SetOf_congr ((setObjOf_fresh (knd := PySem.strKind P w) led).setOf (Heap.get?_push_of_some itr at_S) (by unfold scanBound; omega)) (fun k => by simp [metS]) (by simp [metS])
      have grown : (s.heap.push (fresh led)).objs.size = s.heap.objs.size + 1 := Heap.size_push ..
      have finish : ∀ {itr : Addr} {t : Shared} {G : Array GenState → Array GenState → Prop} {s0 : Shared}, s.heap.objs.size < itr → t.gens = s.gens → t.drawn = s.drawn → t.os = s.os → (∀ b o, b ∉ [s.heap.objs.size, itr] → s0.heap.get? b = some o → t.heap.get? b = some o) →
          (∀ b o, s.heap.get? b = some o → s0.heap.get? b = some o) → t.heap.SetOf (PySem.strKind P w) s.heap.objs.size (fun k => decide (k ∈ metS xs)) (metS xs).length → Done .none t := by
        intro itr t G s0 lt eg ed eo keep old set1
        obtain ⟨h', g', d', tk', os'⟩ := t
        dsimp only at eg ed eo keep set1
        subst eg ed eo
        refine ⟨rfl, h', tk', rfl, set1, fun b o hb e => keep b o ?_ (old b o e)⟩
        simp only [List.mem_cons, List.not_mem_nil, or_false, not_or]
        exact ⟨by omega, by omega⟩
      rcases src with ⟨ol, e, hc, m, hd⟩ | ⟨ol, e, hc, m, hd⟩
      · obtain ⟨cl, dc, dt, sl⟩ := ol
        dsimp only at hc hd
        subst hc hd
        have e1 : (s.heap.push (fresh led)).get? l = some ⟨.type "list", dc, .seq items m, sl⟩ := Heap.get?_push_of_some _ e
        have lt : l < s.heap.objs.size := Heap.lt_size e
        have hsls := F.sub_list_set
        have hslf := F.sub_list_frozenset
        have hne : (Value.type "list" == Value.type "dict") = false := by decide
        have isl : (s.heap.push (fresh led)).IsList l items := ⟨_, e1, rfl, m, rfl⟩
        unfold Builtin.«set.__init__» noKeywords Builtin.Frozenset.updateFrom
        generalize walkName : pyIter = walk
        wp_walk
        subst walkName
        refine wpAny_pyIter_list isl (wpAny_bind (wpAny_runValue ?_))
        refine fill_texts ((Walks.list quiet _ l (by rw [grown]; exact Nat.ne_of_lt (Nat.lt_succ_of_lt lt)) items).toS) (by rw [grown]; simp only [List.mem_cons, List.not_mem_nil, or_false, not_or]; exact ⟨Nat.ne_of_lt (Nat.lt_succ_self _), Nat.ne_of_gt lt⟩) hn few vals items.size 0 _ (by omega) ⟨⟨_, Heap.get?_push_size _ rfl, rfl, rfl⟩, isl.push _⟩ empty fun t mv set1 => ?_
        refine wpAny_pure (wpAny_pure (finish (G := fun _ _ => True) (itr := (s.heap.push (fresh led)).objs.size) (by rw [grown]; exact Nat.lt_succ_self _) mv.gens mv.drawn mv.os (fun b o hb e2 => mv.heap b o hb e2) (fun b o e2 => Heap.get?_push_of_some _ (Heap.get?_push_of_some _ e2)) set1))
      · obtain ⟨cl, dc, dt, sl⟩ := ol
        dsimp only at hc hd
        subst hc hd
        have e1 : (s.heap.push (fresh led)).get? l = some ⟨.type "tuple", dc, .seq items m, sl⟩ := Heap.get?_push_of_some _ e
        have lt : l < s.heap.objs.size := Heap.lt_size e
        have hsls := F.sub_tuple_set
        have hslf := F.sub_tuple_frozenset
        have hne : (Value.type "tuple" == Value.type "dict") = false := by decide
        have isl : (s.heap.push (fresh led)).IsTuple l items := ⟨_, e1, rfl, m, rfl⟩
        unfold Builtin.«set.__init__» noKeywords Builtin.Frozenset.updateFrom
        generalize walkName : pyIter = walk
        wp_walk
        subst walkName
        refine wpAny_pyIter_tuple isl (wpAny_bind (wpAny_runValue ?_))
        refine fill_texts ((Walks.tuple quiet _ l (by rw [grown]; exact Nat.ne_of_lt (Nat.lt_succ_of_lt lt)) items).toS) (by rw [grown]; simp only [List.mem_cons, List.not_mem_nil, or_false, not_or]; exact ⟨Nat.ne_of_lt (Nat.lt_succ_self _), Nat.ne_of_gt lt⟩) hn few vals items.size 0 _ (by omega) ⟨⟨_, Heap.get?_push_size _ rfl, rfl, rfl⟩, isl.push _⟩ empty fun t mv set1 => ?_
        refine wpAny_pure (wpAny_pure (finish (G := fun _ _ => True) (itr := (s.heap.push (fresh led)).objs.size) (by rw [grown]; exact Nat.lt_succ_self _) mv.gens mv.drawn mv.os (fun b o hb e2 => mv.heap b o hb e2) (fun b o e2 => Heap.get?_push_of_some _ (Heap.get?_push_of_some _ e2)) set1))
    · rcases r with e | fl
      · exact hr
      cases fl with
      | next => exact hr.elim
      | brk => exact hr.elim
      | cont => exact hr.elim
      | ret o =>
        obtain ⟨rfl, h', tk, rfl, set1, old⟩ := hr
        repeat (any_goals (first | assumption | wp_step))
        exact k _ _ set1 old
end
/-- len(set(x)), x a list or a tuple of texts -/
def tLenSetS (K : PySem.W.Frag) (ta : TE) : TE := fun σ H Q => ta σ H fun x H1 => ∃ (l : Addr) (xs : List Str), x = .ref l ∧ (SqL K H1 l (xs.map V.str) ∨ SqT K H1 l (xs.map V.str)) ∧ xs.length ≤ 4000 ∧ Q (.int ((metS xs).length : Nat)) H1
theorem strs_at : ∀ {xs : List Str} {us : List Value}, Vals (xs.map V.str) us → ∀ (i : Nat) v, us[i]? = some v → ∃ x t, xs[i]? = some x ∧ v = .str x t
  | [], _, .nil, i, v, e => by simp at e
  | x :: xs, _, .cons ⟨t, q⟩ r, 0, v, e => ⟨x, t, rfl, by rw [← q]; exact (Option.some.inj e).symm⟩
  | x :: xs, _, .cons _ r, i + 1, v, e => by
    obtain ⟨y, t, h1, h2⟩ := strs_at r i v (by simpa using e)
    exact ⟨y, t, by simpa using h1, h2⟩
theorem pe_lenSetS {X : Cx} {a : Expr} {ta : TE} {p p2 q pos : Pos} (g1 : Gl X "len") (m1 : X.mg "len" = none) (g2 : Gl X "set") (m2 : X.mg "set" = none) (ha : PE X a ta) (calm : X.calm = true := by rfl)
    (na : starEach [a] X.env = (false, eval a X.env) :: starEach [] X.env := by rfl) : PE X (.Call (.Name "len" p) [.Call (.Name "set" p2) [a] [] q] [] pos) (tLenSetS X.K ta) := by
  constructor
  intro pins s σ H Q I h
  refine Call_ (ld_blt I g1 m1 boot_len (PyProof.Rows.callWith_builtin1 (PyProof.Rows.args_cons ?_ rfl) rfl rfl))
  refine Call_ (ld_blt I g2 m2 boot_set (PyProof.Rows.callWith_type1 (PyProof.Rows.args_cons (thn (ha.run pins s σ H _ I h) fun v s1 hv => PyProof.Rows.args_nil ?_) na) na rfl))
  obtain ⟨x, H1, I1, r1, l, xs, rfl, sq, few, q1⟩ := hv
  cases r1
  obtain ⟨its, r, src⟩ : ∃ its : List Value, Vals (xs.map V.str) its ∧ (s1.heap.IsList l its.toArray ∨ s1.heap.IsTuple l its.toArray) := by
    rcases sq with z | z
    · obtain ⟨its, r, pl, _⟩ := I1.list z
      exact ⟨its, r, .inl pl.isList⟩
    · obtain ⟨its, r, pl, _⟩ := I1.tuple z
      exact ⟨its, r, .inr pl⟩
  have len1 : xs.length = its.toArray.size := by rw [List.size_toArray, ← r.length, List.length_map]
  have lenM := (metS_len xs.length xs rfl).1
  refine make_set (I1.ok.hd calm) src (fun i v e => strs_at r i v (by simpa using e)) len1 (by rw [← len1]; unfold scanBound; omega) fun h' tk set1 old => PyProof.Rows.args_nil ?_
  obtain ⟨o, es, ep, t, ho, hex, hd, _, _, _, hf, hn⟩ := set1
  have I2 : Inv X pins σ H1 { s1 with heap := h', toks := tk } := I1.kept fun b o e => old b o (Heap.lt_size e) e
  exact call_len_set ho hex hd hf (by rw [hn]; omega) ⟨.int (metS xs).length, H1, I2.tok _, ⟨_, by rw [hn]⟩, q1⟩
end Gx

/-! own classes made by any call, == by an own __eq__, isinstance of a kept error -/
namespace Gx
open PySem PySem.Spec PyProof.Rows L2 Evl
/-! ### making an instance: n values by place, the keywords ks -/
def tMk (C : Addr) (n m : Nat) (sp : Sp) (gV : List V → List V → List V) (E : L2.St → XK) (t tk : TA) : TE := fun σ H Q => t σ H fun vs H1 => tk σ H1 fun zs H2 => vs.length = n ∧ zs.length = m ∧
  ∀ a dx, H2 a = none → H2 dx = none → dx ≠ a → sp (gV (.ref a :: vs) zs) (upd (upd H2 dx (.own a)) a (.ins C dx [])) (fun v H3 => v = .non ∧ Q (.ref a) H3) (E σ)
structure Ctor (P : Program) (w : World) (K : PySem.W.Frag) (mg : Str → Option Value) (base : Heap) (CX : CXT) (k : Nat) (x : Str) (C : Addr) (n : Nat) (ks : List Str) (gV : List V → List V → List V) (sp : Sp) : Prop where
  ex : ∃ (f : Addr) (fd : FuncData) (ps : List Str) (g : List Value → List Value → List Value), Mk K C f ∧ FnOk P w K mg base CX k f fd ps sp ∧ mg x = some (.ref C) ∧ KBn K fd ps (n + 1) ks g gV
section
variable {X : Cx} {CX : CXT} {k n : Nat} {C : Addr} {ks : List Str} {sp : Sp} {E : L2.St → XK} {x : Str} {p pos : Pos} {e : Expr} {es : List Expr} {kws : List Keyword} {t tk : TA} {gV : List V → List V → List V}
theorem run_mk {pins : List (Addr × Obj)} {σ : L2.St} {H : Hp} {s : Shared} {Q : VK} {us ws : List Value} {vs zs : List V} {f : Addr} {fd : FuncData} {ps : List Str} {g : List Value → List Value → List Value} {E1 : XK} (M : Mk X.K C f) (F : FnOk X.prog X.w X.K X.mg X.base CX k f fd ps sp) (room : Room (k + 1) X.A) (B : KBn X.K fd ps (n + 1) ks g gV)
    (passes : PassesAt CX X σ E1) (I : Inv X pins σ H s) (r : Vals vs us) (rz : Vals zs ws) (len : vs.length = n) (lenk : zs.length = ks.length)
    (hyp : ∀ a dx, H a = none → H dx = none → dx ≠ a → sp (gV (.ref a :: vs) zs) (upd (upd H dx (.own a)) a (.ins C dx [])) (fun v H3 => v = .non ∧ Q (.ref a) H3) E1) :
    wpAny (model X.prog X.w) X.A (call (.ref C) us (ks.zip ws)) (EP X pins σ Q) X.xe s := by
  let N := s.heap.objs.size
  have made := Inv.made (C := C) I
  have ready := hyp (N + 1) N (I.hok.fresh (Nat.le_succ _)) (I.hok.fresh (Nat.le_refl _)) (Nat.ne_of_lt (Nat.lt_succ_self _))
  have self : Vals (V.ref (N + 1) :: vs) (Value.ref (N + 1) :: us) := .cons rfl r
  have many : (Value.ref (N + 1) :: us).length = n + 1 := by rw [← self.length, List.length_cons, len]
  have body := F.run _ X.stack _ _ ⟨Value.ref (N + 1) :: us, ks.zip ws⟩ (g (Value.ref (N + 1) :: us) ws) _ _ E1 (room.make C us (ks.zip ws)) (made.env0.make C us (ks.zip ws)) (B.to _ _ ws made.kIn many (rz.length.symm.trans lenk)) (B.rel self rz) ready
  refine wpAny_call (make_map (f := f) I.kIn M.makes M.init (beq_iff_eq.mp M.fn) (codeAny_mono body fun r t ht => ?_))
  rcases r with e | fl
  · exact passes pins _ _ e t made ht
  cases fl with
  | next => exact False.elim ht
  | brk => exact False.elim ht
  | cont => exact False.elim ht
  | ret u =>
    obtain ⟨v, H3, J, rv, rfl, q⟩ := made.after ht
    exact ⟨rv, V.ref (N + 1), H3, J, rfl, q⟩
/-- C(e, .., k = v, ..) -/
theorem pe_ctor (M : Ctor X.prog X.w X.K X.mg X.base CX k x C n ks gV sp) (room : Room (k + 1) X.A) (gl : Gl X x) (passes : ∀ σ, PassesAt CX X σ (E σ)) (ha : PA X (e :: es) t) (hk : PK X kws tk)
    (all1 : (backToKw pos (keywordEach kws X.env)).all (·.1.isSome) = true := by rfl) (names : (backToKw pos (keywordEach kws X.env)).filterMap (·.1) = ks := by rfl) (ndb : (x == ("__debug__" : Str)) = false := by decide)
    (plain1 : starEach (e :: es) X.env = (false, eval e X.env) :: starEach es X.env := by rfl) (plain2 : ((backTo pos (starEach (e :: es) X.env)).any (·.1) || (backToKw pos (keywordEach kws X.env)).any (·.1.isNone)) = false := by rfl) :
    PE X (.Call (.Name x p) (e :: es) kws pos) (tMk C n ks.length sp gV E t tk) := by
  obtain ⟨f, fd, ps, g, M, F, m, B⟩ := M.ex
  constructor
  intro pins s σ H Q I h
  refine wpAny_Call_Name_kw (ld_glob I gl m (PySem.W.callWith_KW (h₀ := X.base) I.ok.mod.kin M.kp all1 (thn (ha.run pos pins s σ H _ I h) fun us s1 hv => ?_) plain2 plain1) ndb)
  obtain ⟨vs, H1, I1, r1, q1⟩ := hv
  refine thn (hk.run pos pins s1 σ H1 _ I1 q1) fun ws s2 hz => ?_
  obtain ⟨zs, H2, I2, r2, l1, l2, q2⟩ := hz
  exact ⟨I2.kIn, by rw [names]; exact run_mk M F room B (passes σ) I2 r1 r2 l1 l2 q2⟩
/-- C(k = v, ..) -/
theorem pe_ctor0 (M : Ctor X.prog X.w X.K X.mg X.base CX k x C 0 ks gV sp) (room : Room (k + 1) X.A) (gl : Gl X x) (passes : ∀ σ, PassesAt CX X σ (E σ)) (hk : PK X kws tk)
    (all1 : (backToKw pos (keywordEach kws X.env)).all (·.1.isSome) = true := by rfl) (names : (backToKw pos (keywordEach kws X.env)).filterMap (·.1) = ks := by rfl) (ndb : (x == ("__debug__" : Str)) = false := by decide)
    (plain2 : ((backTo pos (starEach [] X.env)).any (·.1) || (backToKw pos (keywordEach kws X.env)).any (·.1.isNone)) = false := by rfl) :
    PE X (.Call (.Name x p) [] kws pos) (tMk C 0 ks.length sp gV E tNil tk) := by
  obtain ⟨f, fd, ps, g, M, F, m, B⟩ := M.ex
  constructor
  intro pins s σ H Q I h
  refine wpAny_Call_Name_kw (ld_glob I gl m (PySem.W.callWith_KW0 (h₀ := X.base) I.ok.mod.kin M.kp all1 (thn (hk.run pos pins s σ H _ I h) fun ws s2 hz => ?_) plain2) ndb)
  obtain ⟨zs, H2, I2, r2, l1, l2, q2⟩ := hz
  exact ⟨I2.kIn, by rw [names]; exact run_mk (us := []) (vs := []) M F room B (passes σ) I2 .nil r2 rfl l2 q2⟩
end
theorem passesAt0 {X : Cx} {σ : L2.St} : PassesAt CX0 X σ E0 := fun _ _ _ _ _ _ h => h.elim
theorem passesAtL {X : Cx} {σ : L2.St} : PassesAt (L2.CX X.prog X.w) X σ E0 := fun _ _ _ _ _ I h => passL _ _ _ _ _ _ I h
/-! ### x == y, x an instance with its own __eq__ -/
def rOwnEq (K : PySem.W.Frag) (C : Addr) (sp : Sp) (E : XK) : R2 := fun x y H Q => ∃ (a dx : Addr) (fs : List (Str × V)) (t : Value), x = .ref a ∧ H a = some (.ins C dx fs) ∧ TyX K H y t ∧ PySem.W.notFirst K C t = true ∧ sp [.ref a, y] H (fun v H' => (∃ b, v = .bl b) ∧ Q v H') E
structure EqC (P : Program) (w : World) (K : PySem.W.Frag) (mg : Str → Option Value) (base : Heap) (CX : CXT) (k : Nat) (C : Addr) (sp : Sp) : Prop where
  ex : ∃ (f : Addr) (fd : FuncData) (ps : List Str), FnOk P w K mg base CX k f fd ps sp ∧ PySem.W.findIn K (.ref C) "__eq__" = some (some (.ref f)) ∧ PySem.W.isFn K (.ref f) = true ∧ Binds K fd ps []
theorem op_ownEq {X : Cx} {CX : CXT} {k : Nat} {C : Addr} {sp : Sp} {E : XK} (M : EqC X.prog X.w X.K X.mg X.base CX k C sp) (room : Room k X.A) (passes : Passes CX X E) : OpR X (compareOp .Eq) (rOwnEq X.K C sp E) := by
  obtain ⟨f, fd, ps, F, at_, fn, B⟩ := M.ex
  intro pins s σ H x y v u Q I rx ry h
  obtain ⟨a, dx, fs, t, rfl, ha, ty, nf, q⟩ := h
  cases rx
  obtain ⟨Pk, Z, pk, -⟩ := kit_of I ry ty
  obtain ⟨mA, J, _⟩ := ins_get I.hok ha
  obtain ⟨od, J, _⟩ := J.look
  obtain ⟨m, fr⟩ := I.fr
  have r2 : Vals [V.ref a, y] [Value.ref a, u] := .cons rfl (.cons ry .nil)
  have lens : [Value.ref a, u].length = ps.length := by rw [← r2.length]; exact F.len _ _ _ _ q
  have bound := B s [.ref a, u] I.kIn (by rw [List.append_nil]; exact lens)
  rw [List.append_nil] at bound
  show wpAny (model X.prog X.w) X.A (richCompare .Eq (.ref a) u) (EP X pins σ Q) X.xe s
  refine PySem.W.cmp_K (op := .Eq) (tb := t) room.units0 fr I.ok.mod.kin J (Z.ty _ _ I.kIn pk) nf at_ fn (wpAny_call (codeAny_mono (F.run X.A X.stack s H ⟨[.ref a, u], []⟩ _ _ _ E room I.env0 bound r2 q) fun r t2 ht => ?_))
  rcases r with e | fl
  · exact passes pins σ H s e t2 I ht
  cases fl with
  | next => exact False.elim ht
  | brk => exact False.elim ht
  | cont => exact False.elim ht
  | ret o =>
    obtain ⟨v, H', J', rv, ⟨b, rfl⟩, q'⟩ := I.after ht
    cases rv
    exact ⟨.bl b, H', J', rfl, q'⟩
/-! ### isinstance of a kept error -/
def rIsX (K : PySem.W.Frag) : List V → Hp → VK → Prop := fun xs H Q => ∃ (a D : Addr) (c : V) (cv : Value) (b : Bool), xs = [.ref a, c] ∧ H a = some (ExK (.ref D) none a) ∧ ExcC K D ∧ ClsV c cv ∧ PySem.W.kitOne K (.ref D) cv = some b ∧ Q (.bl b) H
theorem call_isX {X : Cx} : CallR X (.builtin "isinstance") (rIsX X.K) := by
  intro pins s σ H xs us Q I r h
  obtain ⟨a, D, c, cv, b, rfl, ha, C, hc, e, q⟩ := h
  obtain ⟨u1, u2, rfl, r1, r2⟩ := vals2 r
  cases r1
  obtain rfl := hc.eq r2
  obtain ⟨⟨oe, vs, he, hz, hf⟩, _⟩ := (show ObjOk X.prog X.w H s.heap a (ExK (.ref D) none a) from I.hok a _ ha)
  have J : PySem.W.InstAt s.heap a oe D none := by
    obtain ⟨oc, od, oda, osl⟩ := oe
    obtain ⟨z1, z2⟩ := hz
    dsimp only at z1 z2 hf
    subst z1 z2 hf
    exact ⟨he, rfl, rfl, trivial⟩
  exact PySem.W.kia_one (PySem.W.handS_kitx_exc C.hg C.hk C.hs C.hd C.ha C.hn C.ht C.hm) I.kIn J e (fun z => nomatch z) fun tk => ⟨.bl b, H, I.tok tk, rfl, q⟩
/-! ### bundles: a method, an error's class; raise, try -/
structure Met (P : Program) (w : World) (K : PySem.W.Frag) (mg : Str → Option Value) (base : Heap) (CX : CXT) (k : Nat) (C : Addr) (m : Str) (sp : Sp) : Prop where
  ex : ∃ (f : Addr) (fd : FuncData) (ps : List Str), Cls K C ∧ Meth K C m f ∧ FnOk P w K mg base CX k f fd ps sp ∧ Binds K fd ps []
theorem pe_met0 {X : Cx} {CX : CXT} {k : Nat} {C : Addr} {m : Str} {sp : Sp} {E : XK} {o : Expr} {ta : TE} {apos pos : Pos} {pl : Sem Bool} (M : Met X.prog X.w X.K X.mg X.base CX k C m sp) (room : Room k X.A) (passes : Passes CX X E) (ho : PE X o ta)
    (ht : eval (.Call (.Attribute o m apos) [] [] pos) X.env = (do
      let ov ← eval o X.env
      standAt apos.atName
      let (f, first) ← holding [ov] (getMethod ov m pl)
      callWith pos f first (backTo pos (starEach [] X.env)) (backToKw pos (keywordEach [] X.env))) := by rfl) : PE X (.Call (.Attribute o m apos) [] [] pos) (tMeth C m sp [] E ta tNil) := by
  obtain ⟨f, fd, ps, c, hm, F, B⟩ := M.ex
  exact pe_meth0 (pl := pl) ho c hm F room B .nil passes ht
structure ExC (K : PySem.W.Frag) (mg : Str → Option Value) (x : Str) (C : Addr) : Prop where
  g : mg x = some (.ref C)
  x : PySem.W.excIn K C [.type "ValueError", .type "Exception", .type "BaseException", .type "object"] "ValueError.__new__" = true
  k : PySem.W.keepIn K (.ref C) = true
  b : PySem.W.subIn K (.ref C) (.type "BaseException") = some true
  t : PySem.W.typeIn K (.ref C) = some (.type "type")
theorem ExC.r {X : Cx} {x : Str} {C : Addr} (h : ExC X.K X.mg x C) : Raises X (.ref C) := raises_own h.b h.t
def tRaiseO (C : Addr) (W : WX) : TS := fun _ σ H => W (.ref C) none σ H
def tTryK (K : PySem.W.Frag) (c : Value) (i : Nat) (tb : WX → TS) (ts : Addr → Value → Option Addr → TS) : TS := fun D σ H => tb (wKeep K c i ts D) D σ H
theorem PassesAt.of {CX : CXT} {X : Cx} {σ : L2.St} {E : XK} (h : Passes CX X E) : PassesAt CX X σ E := fun pins H s e s' I c => h pins σ H s e s' I c
end Gx

/-! a text times a number; what is walked, a list or a tuple; slices and sums of tuples -/
namespace Gx
open PySem PySem.Spec PyProof.Rows L2 Evl
def repS (z : Str) (k : Nat) : Str := ⟨((List.replicate k z.cps.toList).flatten).toArray⟩
theorem foldl_app (a : Array Nat) : ∀ (k : Nat) (b : Array Nat), ((List.replicate k a).foldl (· ++ ·) b).toList = b.toList ++ (List.replicate k a.toList).flatten
  | 0, b => by simp
  | k + 1, b => by
    rw [List.replicate_succ, List.foldl_cons, foldl_app a k (b ++ a), List.replicate_succ, List.flatten_cons, Array.toList_append, List.append_assoc]
theorem repS_eq (z : Str) (k : Nat) : (⟨(List.replicate k z.cps).foldl (· ++ ·) #[]⟩ : Str) = repS z k := by
  refine TL.ext_tl ?_
  show ((List.replicate k z.cps).foldl (· ++ ·) #[]).toList = _
  rw [foldl_app]; rfl
theorem repS_one (z : Str) : repS z 1 = z := TL.ext_tl (by show (List.replicate 1 z.cps.toList).flatten = _; simp)
theorem sum_rep : ∀ (k n : Nat), (List.replicate k n).sum = k * n
  | 0, n => by simp
  | k + 1, n => by rw [List.replicate_succ, List.sum_cons, sum_rep k n, Nat.succ_mul, Nat.add_comm]
theorem repS_len (z : Str) (k : Nat) : (repS z k).length = k * z.length := by
  rw [← len_tl]
  show ((List.replicate k z.cps.toList).flatten).length = _
  rw [List.length_flatten, List.map_replicate, sum_rep, len_tl]
theorem repS_mem {z : Str} {k c : Nat} (h : c ∈ (repS z k).cps.toList) : c ∈ z.cps.toList := by
  obtain ⟨l, hl, hc⟩ := List.mem_flatten.mp (show c ∈ (List.replicate k z.cps.toList).flatten from h)
  rw [(List.mem_replicate.mp hl).2] at hc
  exact hc
def rMulS : R2 := fun x y H Q => ∃ (z : Str) (k : Int), x = .str z ∧ y = .int k ∧ 1 ≤ k ∧ k ≤ 1000 ∧ z.length ≤ 1000 ∧ Q (.str (repS z k.toNat)) H
theorem op_mulS {X : Cx} : OpR X (binaryOp .Mult) rMulS := by
  intro pins s σ H x y v u Q I rx ry h
  obtain ⟨z, k, rfl, rfl, k1, k2, hz, q⟩ := h
  obtain ⟨t, rfl⟩ := rx
  obtain ⟨t2, rfl⟩ := ry
  have e63 : (2 ^ 63 : Int) = 9223372036854775808 := by decide
  have prod : z.length * k.toNat ≤ 1000 * 1000 := Nat.mul_le_mul hz (by omega)
  have line : 1000000 ≤ sizeLine := by decide
  refine P.mul_str (by rw [e63, decide_eq_false (by omega), decide_eq_false (by omega)]; rfl) (fun _ _ => ?_) (fun _ _ => ?_) ?_
  · have : (1000 : Int) ≤ (2 ^ 63 - 1) / k := by
      rw [e63]
      refine Int.le_ediv_of_mul_le (by omega) ?_
      omega
    omega
  · unfold Builtin.Str.tooLong
    exact decide_eq_false (by omega)
  · rw [if_neg (by omega)]
    by_cases h1 : (k == 1 || z.length == 0) = true
    · rw [if_pos h1]
      have e : repS z k.toNat = z := by
        rcases Bool.or_eq_true_iff.mp h1 with e | e
        · rw [eq_of_beq e]; exact repS_one z
        · have e0 : z.length = 0 := eq_of_beq e
          have l1 := repS_len z k.toNat
          rw [e0, Nat.mul_zero] at l1
          have a1 : (repS z k.toNat).cps.toList = [] := List.length_eq_zero_iff.mp (by rw [len_tl]; exact l1)
          have a2 : z.cps.toList = [] := List.length_eq_zero_iff.mp (by rw [len_tl]; exact e0)
          exact TL.ext_tl (a1.trans a2.symm)
      rw [e] at q
      exact ⟨.str z, H, I.tok _, ⟨t, rfl⟩, q⟩
    · rw [if_neg h1, repS_eq]
      refine ⟨?_, .str (repS z k.toNat), H, I.tok _, ⟨_, rfl⟩, q⟩
      rw [repS_len, Nat.mul_comm]; omega
/-! ### walked by either rule -/
def iOr (i1 i2 : TI) : TI := fun σ H R => i1 σ H R ∨ i2 σ H R
theorem pi_or {X : Cx} {tg e : Expr} {i1 i2 : TI} (h1 : PI X tg e i1) (h2 : PI X tg e i2) : PI X tg e (iOr i1 i2) := by
  constructor
  intro pins s σ H R I h
  rcases h with h | h
  · exact h1.run pins s σ H R I h
  · exact h2.run pins s σ H R I h
end Gx

/-! steps: one lemma a piece of a reading; alternatives of rules by values -/
namespace Gx
open PySem PySem.Spec PyProof.Rows L2 Evl

/-! ### rules joined -/
def rOr (r1 r2 : R2) : R2 := fun x y H Q => r1 x y H Q ∨ r2 x y H Q
def cOr (r1 r2 : List V → Hp → VK → Prop) : List V → Hp → VK → Prop := fun xs H Q => r1 xs H Q ∨ r2 xs H Q
section
variable {X : Cx}
theorem opOr {f : Value → Value → Sem Value} {r1 r2 : R2} (h1 : OpR X f r1) (h2 : OpR X f r2) : OpR X f (rOr r1 r2) := fun pins s σ H x y v u Q I rx ry h => by
  rcases h with h | h
  · exact h1 pins s σ H x y v u Q I rx ry h
  · exact h2 pins s σ H x y v u Q I rx ry h
theorem callOr {f : Value} {r1 r2 : List V → Hp → VK → Prop} (h1 : CallR X f r1) (h2 : CallR X f r2) : CallR X f (cOr r1 r2) := fun pins s σ H xs us Q I r h => by
  rcases h with h | h
  · exact h1 pins s σ H xs us Q I r h
  · exact h2 pins s σ H xs us Q I r h
end
/-- in the form of the list's rule, the list one that is read -/
def gAdd (K : PySem.W.Frag) : R2 := rOr (rI0 fun i j => .int (i + j)) (rOr (fun x y H Q => ∃ i j, x = .str i ∧ y = .str j ∧ i.length + j.length ≤ sizeLine ∧ Q (.str (i ++ j)) H) (rOr rCat (rCatA K)))
theorem op_gAdd {X : Cx} : OpR X (binaryOp .Add) (gAdd X.K) := opOr op_add (opOr op_add_str (opOr op_cat op_catA))
def gMul : R2 := rOr (rI CMulW fun i j => .int (i * j)) (rOr rRep rMulS)
theorem op_gMul {X : Cx} : OpR X (binaryOp .Mult) gMul := opOr op_mulW (opOr op_rep op_mulS)
def gEq (K : PySem.W.Frag) : R2 := rOr rEq (rEqD K)
theorem op_gEq {X : Cx} (hu : X.A.units + 64 < cLine) : OpR X (compareOp .Eq) (gEq X.K) := opOr op_eq (op_eqD hu)
def gNe (K : PySem.W.Frag) : R2 := rOr rNe (rNeD K)
theorem op_gNe {X : Cx} (hu : X.A.units + 64 < cLine) : OpR X (compareOp .NotEq) (gNe X.K) := opOr op_ne (op_neD hu)
def gLt : R2 := rOr (rI0 fun i j => .bl (decide (i < j))) (fun x y H Q => ∃ i j, x = .str i ∧ y = .str j ∧ Q (.bl (decide (i.cps.toList < j.cps.toList))) H)
theorem op_gLt {X : Cx} : OpR X (compareOp .Lt) gLt := opOr op_lt op_lt_str
def gLe : R2 := rOr (rI0 fun i j => .bl (decide (i ≤ j))) (fun x y H Q => ∃ i j, x = .str i ∧ y = .str j ∧ Q (.bl (!decide (j.cps.toList < i.cps.toList))) H)
theorem op_gLe {X : Cx} : OpR X (compareOp .LtE) gLe := opOr op_le op_le_str
def gGt : R2 := rOr (rI0 fun i j => .bl (decide (j < i))) (fun x y H Q => ∃ i j, x = .str i ∧ y = .str j ∧ Q (.bl (decide (j.cps.toList < i.cps.toList))) H)
theorem op_gGt {X : Cx} : OpR X (compareOp .Gt) gGt := opOr op_gt op_gt_str
def gGe : R2 := rOr (rI0 fun i j => .bl (decide (j ≤ i))) (fun x y H Q => ∃ i j, x = .str i ∧ y = .str j ∧ Q (.bl (!decide (i.cps.toList < j.cps.toList))) H)
theorem op_gGe {X : Cx} : OpR X (compareOp .GtE) gGe := opOr op_ge op_ge_str
/-- one sign in a text -/
def rSgn (neg : Bool) : R2 := fun x y H Q => ∃ (c : Nat) (z : Str), x = .str ⟨#[c]⟩ ∧ y = .str z ∧ Q (.bl (if neg then !decide (c ∈ z.cps.toList) else decide (c ∈ z.cps.toList))) H
def gIn (K : PySem.W.Frag) : R2 := rOr (rIn K false) (rSgn false)
theorem op_gIn {X : Cx} : OpR X (compareOp .In) (gIn X.K) := opOr op_in_seq op_in_sign
def gNi (K : PySem.W.Frag) : R2 := rOr (rIn K true) (rSgn true)
theorem op_gNi {X : Cx} : OpR X (compareOp .NotIn) (gNi X.K) := opOr op_notIn_seq op_notIn_sign
def gLen (K : PySem.W.Frag) : List V → Hp → VK → Prop := cOr (fun xs H Q => ∃ p ys, xs = [.ref p] ∧ (SqL K H p ys ∨ SqT K H p ys) ∧ Q (.int ys.length) H) (fun xs H Q => ∃ z, xs = [.str z] ∧ z.length ≤ sizeLine ∧ Q (.int z.length) H)
theorem call_gLen {X : Cx} : CallR X (.builtin "len") (gLen X.K) := callOr call_len_seq call_len_str
def gIsi (K : PySem.W.Frag) : List V → Hp → VK → Prop := cOr (rIsi K) (cOr (rIsiT K) (rIsX K))
theorem call_gIsi {X : Cx} : CallR X (.builtin "isinstance") (gIsi X.K) := callOr call_isi (callOr call_isiT call_isX)
/-- slices of what is read: a list, a tuple, a text -/
def gSl (K : PySem.W.Frag) : V → Option Int → Option Int → Hp → VK → Prop := fun x lo hi H Q => rSlL K x lo hi H Q ∨ rSlA K x lo hi H Q ∨ rSlS x lo hi H Q
theorem sl_g {X : Cx} : SlR X (gSl X.K) := SlR.or sl_list (SlR.or sl_tupA sl_str)

/-! ### a def as its callers see it -/
structure Cal (P : Program) (w : World) (K : PySem.W.Frag) (mg : Str → Option Value) (base : Heap) (CX : CXT) (k : Nat) (x : Str) (ps : List Str) (dvs : List V) (sp : Sp) : Prop where
  ex : ∃ (f : Addr) (fd : FuncData) (ds : List Value), FnOk P w K mg base CX k f fd ps sp ∧ mg x = some (.ref f) ∧ PySem.W.keepIn K (.ref f) = true ∧ Binds K fd ps ds ∧ Vals dvs ds
theorem pe_cal {X : Cx} {CX : CXT} {k : Nat} {x : Str} {ps : List Str} {dvs : List V} {sp : Sp} {E : XK} {p pos : Pos} {e : Expr} {es : List Expr} {t : TA} (C : Cal X.prog X.w X.K X.mg X.base CX k x ps dvs sp) (hr : Room k X.A) (hg : Gl X x) (hx : Passes CX X E) (ha : PA X (e :: es) t)
    (hdb : (x == ("__debug__" : Str)) = false := by decide) (he : starEach (e :: es) X.env = (false, eval e X.env) :: starEach es X.env := by rfl) (hpl : (backTo pos (starEach es X.env)).any (·.1) = false := by rfl) :
    PE X (.Call (.Name x p) (e :: es) [] pos) (tCall sp dvs E t) := by
  obtain ⟨f, fd, ds, F, m, kp, b, d⟩ := C.ex
  exact pe_call F hr hg m kp b d hx ha hdb he hpl
theorem pe_cal0 {X : Cx} {CX : CXT} {k : Nat} {x : Str} {ps : List Str} {dvs : List V} {sp : Sp} {E : XK} {p pos : Pos} (C : Cal X.prog X.w X.K X.mg X.base CX k x ps dvs sp) (hr : Room k X.A) (hg : Gl X x) (hx : Passes CX X E)
    (hdb : (x == ("__debug__" : Str)) = false := by decide) : PE X (.Call (.Name x p) [] [] pos) (tCall sp dvs E tNil) := by
  obtain ⟨f, fd, ds, F, m, kp, b, d⟩ := C.ex
  exact pe_call0 F hr hg m kp b d hx hdb
/-- f(k = v, ..), all by keywords -/
theorem pe_callK0 {X : Cx} {CX : CXT} {k : Nat} {f : Addr} {fd : FuncData} {ps ks : List Str} {sp : Sp} {E : XK} {x : Str} {p pos : Pos} {kws : List Keyword} {tk : TA} {g : List Value → List Value → List Value} {gV : List V → List V → List V}
    (F : FnOk X.prog X.w X.K X.mg X.base CX k f fd ps sp) (hr : Room k X.A) (hg : Gl X x) (hm : X.mg x = some (.ref f)) (hk : PySem.W.keepIn X.K (.ref f) = true) (hb : KBinds X.K fd ps ks g gV) (hx : Passes CX X E) (hkw : PK X kws tk)
    (hall : (backToKw pos (keywordEach kws X.env)).all (·.1.isSome) = true := by rfl) (hks : (backToKw pos (keywordEach kws X.env)).filterMap (·.1) = ks := by rfl) (hdb : (x == ("__debug__" : Str)) = false := by decide)
    (hpl : ((backTo pos (starEach [] X.env)).any (·.1) || (backToKw pos (keywordEach kws X.env)).any (·.1.isNone)) = false := by rfl) :
    PE X (.Call (.Name x p) [] kws pos) (tCallK sp gV E tNil tk) := by
  refine ⟨fun pins s σ H Q I h => ?_⟩
  refine wpAny_Call_Name_kw (ld_glob I hg hm ?_ hdb)
  refine PySem.W.callWith_KW0 (h₀ := X.base) I.ok.mod.kin hk hall ?_ hpl
  refine thn (hkw.run pos pins s σ H _ I h) fun ws s2 ⟨zs, H2, I2, rz, q2⟩ => ⟨I2.kIn, ?_⟩
  rw [hks]
  exact run_fnk (us := []) (vs := []) F hr hb hx I2 .nil rz q2
structure CalK (P : Program) (w : World) (K : PySem.W.Frag) (mg : Str → Option Value) (base : Heap) (CX : CXT) (k : Nat) (x : Str) (ps ks : List Str) (gV : List V → List V → List V) (sp : Sp) : Prop where
  ex : ∃ (f : Addr) (fd : FuncData) (g : List Value → List Value → List Value), FnOk P w K mg base CX k f fd ps sp ∧ mg x = some (.ref f) ∧ PySem.W.keepIn K (.ref f) = true ∧ KBinds K fd ps ks g gV
theorem pe_calK0 {X : Cx} {CX : CXT} {k : Nat} {x : Str} {ps ks : List Str} {sp : Sp} {E : XK} {p pos : Pos} {kws : List Keyword} {tk : TA} {gV : List V → List V → List V}
    (C : CalK X.prog X.w X.K X.mg X.base CX k x ps ks gV sp) (hr : Room k X.A) (hg : Gl X x) (hx : Passes CX X E) (hkw : PK X kws tk)
    (hall : (backToKw pos (keywordEach kws X.env)).all (·.1.isSome) = true := by rfl) (hks : (backToKw pos (keywordEach kws X.env)).filterMap (·.1) = ks := by rfl) (hdb : (x == ("__debug__" : Str)) = false := by decide)
    (hpl : ((backTo pos (starEach [] X.env)).any (·.1) || (backToKw pos (keywordEach kws X.env)).any (·.1.isNone)) = false := by rfl) :
    PE X (.Call (.Name x p) [] kws pos) (tCallK sp gV E tNil tk) := by
  obtain ⟨f, fd, g, F, m, kp, b⟩ := C.ex
  exact pe_callK0 F hr hg m kp b hx hkw hall hks hdb hpl

theorem cal_of {P : Program} {w : World} {K : PySem.W.Frag} {mg : Str → Option Value} {base : Heap} {CX : CXT} {x qual : Str} {st : Stmt} {f : Addr} {fd : FuncData} {k : Nat} {ps : List Str} {sp : Sp} (F : Fun K x qual st f fd) (ok : FnOk P w K mg base CX k f fd ps sp) (m : mg x = some (.ref f)) (b : Binds K fd ps []) : Cal P w K mg base CX k x ps [] sp := ⟨f, fd, [], ok, m, F.kp, b, .nil⟩
theorem _root_.L2.Fun.kbindsF {K : PySem.W.Frag} {x qual : Str} {st : Stmt} {f : Addr} {fd : FuncData} {ps ks : List Str} (F : Fun K x qual st f fd)
    (h : ∀ (kV doc pm : Value) (an : Option Addr) (cdv ct : Value) (us ws : List Value), (us ++ ws).length = ps.length → bindArgs (PySem.W.fnOf x qual (defArgs st) (defBody st) (defScope st) .none kV doc pm an cdv ct) ⟨us, ks.zip ws⟩ = pure (ps.zip (us ++ ws))) : KBinds K fd ps ks (fun us ws => us ++ ws) (fun vs zs => vs ++ zs) := by
  obtain ⟨oc, od, kV, doc, pm, an, cdv, ct, osl, rfl, lk, hcd⟩ := F.ex
  exact ⟨fun s us ws _ hl => .of_eq (h kV doc pm an cdv ct us ws hl), fun r1 r2 => r1.append r2⟩
theorem calk_of {P : Program} {w : World} {K : PySem.W.Frag} {mg : Str → Option Value} {base : Heap} {CX : CXT} {x qual : Str} {st : Stmt} {f : Addr} {fd : FuncData} {k : Nat} {ps ks : List Str} {sp : Sp} {g : List Value → List Value → List Value} {gV : List V → List V → List V} (F : Fun K x qual st f fd) (ok : FnOk P w K mg base CX k f fd ps sp) (m : mg x = some (.ref f)) (b : KBinds K fd ps ks g gV) : CalK P w K mg base CX k x ps ks gV sp := ⟨f, fd, g, ok, m, F.kp, b⟩

/-! ### steps -/
section
variable {K : PySem.W.Frag} {σ : L2.St} {H : Hp} {Q : VK} {D : Ends} {ta tb tc te : TE} {x y v : V} {t u : TS} {tt uu : TT} {QB : Bool → Hp → Prop} {A B : Prop} {b c : Bool} {QL : List V → Hp → Prop}
theorem c_seq (h : t { D with nx := u D } σ H) : tSeq t u D σ H := h
theorem c_next (h : D.nx σ H) : tNext D σ H := h
theorem c_brk (h : D.bk σ H) : tBreak D σ H := h
theorem c_cont (h : D.ct σ H) : tCont D σ H := h
theorem c_drop (h : te σ H fun _ H1 => D.nx σ H1) : tDrop te D σ H := h
theorem c_ret (h : te σ H D.rt) : tRet te D σ H := h
theorem c_retN (h : D.rt .non H) : tRetN D σ H := h
theorem c_ifs (h : tt σ H fun b H1 => if b = true then t D σ H1 else u D σ H1) : tIfS tt t u D σ H := h
theorem c_asgG {g : TG} (h : te σ H fun x H1 => g x σ H1 D.nx) : tAsg te g D σ H := h
theorem c_c (h : Q v H) : tC v σ H Q := h
theorem c_op {r : R2} (h : ta σ H fun x H1 => tb σ H1 fun y H2 => r x y H2 Q) : tOp r ta tb σ H Q := h
theorem c_un {r : V → Hp → VK → Prop} (h : ta σ H fun x H1 => r x H1 Q) : tUn r ta σ H Q := h
theorem c_cb {r : List V → Hp → VK → Prop} {ta : TA} (h : ta σ H fun vs H1 => r vs H1 Q) : tCB r ta σ H Q := h
theorem c_nil (h : QL [] H) : tNil σ H QL := h
theorem c_cons {tr : TA} (h : ta σ H fun x H1 => tr σ H1 fun xs H2 => QL (x :: xs) H2) : tCons ta tr σ H QL := h
theorem c_call {sp : Sp} {dvs : List V} {E : XK} {ta : TA} (h : ta σ H fun vs H1 => sp (vs ++ dvs) H1 Q E) : tCall sp dvs E ta σ H Q := h
theorem c_callK {sp : Sp} {gV : List V → List V → List V} {E : XK} {ta tk : TA} (h : ta σ H fun vs H1 => tk σ H1 fun zs H2 => sp (gV vs zs) H2 Q E) : tCallK sp gV E ta tk σ H Q := h
theorem c_test (h : te σ H fun x H' => ∃ k, x = .bl k ∧ QB k H') : tTest te σ H QB := h
theorem c_tB (h : te σ H fun x H' => ∃ k, x = .bl k ∧ QB k H') : tB te σ H QB := h
theorem c_bl (h : QB b H) : ∃ k, V.bl b = .bl k ∧ QB k H := ⟨b, rfl, h⟩
theorem c_and (h : tt σ H fun c H1 => if c = true then uu σ H1 QB else QB false H1) : tAnd tt uu σ H QB := h
theorem c_or (h : tt σ H fun c H1 => if c = true then QB true H1 else uu σ H1 QB) : tOr tt uu σ H QB := h
theorem c_not (h : tt σ H fun c H1 => QB (!c) H1) : tNot tt σ H QB := h
theorem c_andV (h : ta σ H fun x H1 => ∃ c, x = .bl c ∧ if c = true then tb σ H1 Q else Q (.bl false) H1) : tAndV ta tb σ H Q := h
theorem c_orV (h : ta σ H fun x H1 => ∃ c, x = .bl c ∧ if c = true then Q (.bl true) H1 else tb σ H1 Q) : tOrV ta tb σ H Q := h
theorem c_notV (h : ta σ H fun x H1 => ∃ c, x = .bl c ∧ Q (.bl (!c)) H1) : tNotV ta σ H Q := h
theorem c_blP {R : Bool → Prop} (h : R b) : ∃ c, V.bl b = .bl c ∧ R c := ⟨b, rfl, h⟩
theorem c_if (h : tt σ H fun c H1 => if c = true then ta σ H1 Q else tb σ H1 Q) : tIf tt ta tb σ H Q := h
theorem c_chain {r r' : R2} (h : ta σ H fun x H1 => tb σ H1 fun y H2 => r x y H2 fun z H3 => ∃ k, z = .bl k ∧ if k = true then tc σ H3 fun y' H4 => r' y y' H4 Q else Q (.bl false) H3) : tChain r r' ta tb tc σ H Q := h
theorem c_sl {r : V → Option Int → Option Int → Hp → VK → Prop} {tl th : TO} (h : te σ H fun x H1 => tl σ H1 fun l H2 => th σ H2 fun u H3 => r x l u H3 Q) : tSl r te tl th σ H Q := h
theorem c_nop {QO : Option Int → Hp → Prop} (h : QO none H) : tNoPart σ H QO := h
theorem c_part {QO : Option Int → Hp → Prop} (h : te σ H fun x H1 => ∃ i, x = .int i ∧ QO (some i) H1) : tPart te σ H QO := h
theorem c_parti {i : Int} {R : Int → Prop} (h : R i) : ∃ j, V.int i = .int j ∧ R j := ⟨i, rfl, h⟩
def LK (Q : VK) (xs : List V) (H : Hp) : Prop := xs.length ≤ sizeLine ∧ ∀ p, H p = none → Q (.ref p) (upd H p (.lst xs))
def TK (Q : VK) (xs : List V) (H : Hp) : Prop := xs.length ≤ sizeLine ∧ ∀ p, H p = none → Q (.ref p) (upd H p (.tup xs))
theorem c_lst {ta : TA} (h : ta σ H fun xs H1 => LK Q xs H1) : tLst ta σ H Q := h
theorem c_lstE {xs : List V} (hl : xs.length ≤ 100000) (h : ∀ p H', H p = none → Ex H H' → H' p = some (.lst xs) → Q (.ref p) H') : LK Q xs H := ⟨sz_of hl, fun p hp => h p _ hp (Ex.new hp) upd_same⟩
theorem c_tup {ta : TA} (h : ta σ H fun xs H1 => TK Q xs H1) : tTup ta σ H Q := h
theorem c_tupE {xs : List V} (hl : xs.length ≤ 100000) (h : ∀ p H', H p = none → Ex H H' → H' p = some (.tup xs) → Q (.ref p) H') : TK Q xs H := ⟨sz_of hl, fun p hp => h p _ hp (Ex.new hp) upd_same⟩
theorem c_isn (h : Q (.bl (decide (x = .non))) H) : rIsN x .non H Q := ⟨rfl, h⟩
theorem c_notn (h : Q (.bl (!decide (x = .non))) H) : rNotN x .non H Q := ⟨rfl, h⟩
/-! ways -/
theorem c_t (h : A) : if true = true then A else B := by rw [if_pos rfl]; exact h
theorem c_f (h : B) : if false = true then A else B := by rw [if_neg Bool.false_ne_true]; exact h
theorem c_2 (h1 : b = true → A) (h2 : b = false → B) : if b = true then A else B := by
  cases b with
  | true => exact c_t (h1 rfl)
  | false => exact c_f (h2 rfl)
theorem c_d {p : Prop} [Decidable p] (h1 : p → A) (h2 : ¬p → B) : if decide p = true then A else B := c_2 (fun e => h1 (of_decide_eq_true e)) (fun e => h2 (of_decide_eq_false e))
theorem c_nd {p : Prop} [Decidable p] (h1 : ¬p → A) (h2 : p → B) : if (!decide p) = true then A else B := c_2 (fun e => h1 (by simpa using e)) (fun e => h2 (by simpa using e))
/-! operators by values -/
theorem g_add_i {i j : Int} (h : Q (.int (i + j)) H) : gAdd K (.int i) (.int j) H Q := .inl ⟨i, j, rfl, rfl, h⟩
theorem g_add_s {i j : Str} (hl : i.length + j.length ≤ 100000) (h : Q (.str (i ++ j)) H) : gAdd K (.str i) (.str j) H Q := .inr (.inl ⟨i, j, rfl, rfl, sz_of hl, h⟩)
theorem g_add_l {p q : Addr} {xs ys : List V} (hp : H p = some (.lst xs)) (hq : H q = some (.lst ys)) (hl : xs.length + ys.length ≤ 100000) (h : ∀ r H', H r = none → Ex H H' → H' r = some (.lst (xs ++ ys)) → Q (.ref r) H') : gAdd K (.ref p) (.ref q) H Q :=
  .inr (.inr (.inl ⟨p, q, xs, ys, rfl, rfl, hp, hq, sz_of hl, fun r hr => h r _ hr (Ex.new hr) upd_same⟩))
theorem g_sub_i {i j : Int} (h : Q (.int (i - j)) H) : rI0 (fun i j => .int (i - j)) (.int i) (.int j) H Q := ⟨i, j, rfl, rfl, h⟩
theorem g_mul_i {i j : Int} (hc : CMulW i j) (h : Q (.int (i * j)) H) : gMul (.int i) (.int j) H Q := .inl ⟨i, j, rfl, rfl, hc, h⟩
theorem g_fdiv_i {i j : Int} (hc : CDivW i j) (h : Q (.int (i / j)) H) : rI CDivW (fun i j => .int (i / j)) (.int i) (.int j) H Q := ⟨i, j, rfl, rfl, hc, h⟩
theorem g_mod_i {i j : Int} (hc : 0 < j) (h : Q (.int (i % j)) H) : rI (fun _ j => 0 < j) (fun i j => .int (i % j)) (.int i) (.int j) H Q := ⟨i, j, rfl, rfl, hc, h⟩
theorem g_pow_i {i j : Int} (hc : CPow i j) (h : Q (.int (i ^ j.toNat)) H) : rI CPow (fun i j => .int (i ^ j.toNat)) (.int i) (.int j) H Q := ⟨i, j, rfl, rfl, hc, h⟩
theorem g_eq_s (hs : scal x y = true) (h : Q (.bl (decide (x = y))) H) : gEq K x y H Q := .inl ⟨hs, h⟩
theorem v_int {i j : Int} : decide (V.int i = V.int j) = decide (i = j) := by
  rw [decide_eq_decide]; exact ⟨V.int.inj, fun e => e ▸ rfl⟩
theorem v_str {i j : Str} : decide (V.str i = V.str j) = decide (i = j) := by
  rw [decide_eq_decide]; exact ⟨V.str.inj, fun e => e ▸ rfl⟩
theorem v_bl {i j : Bool} : decide (V.bl i = V.bl j) = decide (i = j) := by
  rw [decide_eq_decide]; exact ⟨V.bl.inj, fun e => e ▸ rfl⟩
theorem g_eq_i {i j : Int} (h : Q (.bl (decide (i = j))) H) : gEq K (.int i) (.int j) H Q := .inl ⟨rfl, by rw [v_int]; exact h⟩
theorem g_eq_st {i j : Str} (h : Q (.bl (decide (i = j))) H) : gEq K (.str i) (.str j) H Q := .inl ⟨rfl, by rw [v_str]; exact h⟩
theorem g_eq_b {i j : Bool} (h : Q (.bl (decide (i = j))) H) : gEq K (.bl i) (.bl j) H Q := .inl ⟨rfl, by rw [v_bl]; exact h⟩
theorem g_ne_i {i j : Int} (h : Q (.bl (!decide (i = j))) H) : gNe K (.int i) (.int j) H Q := .inl ⟨rfl, by rw [v_int]; exact h⟩
theorem g_ne_st {i j : Str} (h : Q (.bl (!decide (i = j))) H) : gNe K (.str i) (.str j) H Q := .inl ⟨rfl, by rw [v_str]; exact h⟩
theorem g_ne_b {i j : Bool} (h : Q (.bl (!decide (i = j))) H) : gNe K (.bl i) (.bl j) H Q := .inl ⟨rfl, by rw [v_bl]; exact h⟩
theorem g_eq_d {d e : PyData} (hd : Dp K H x d) (he : Dp K H y e) (s1 : SeqAt.shaped d = true) (s2 : SeqAt.shaped e = true) (h : Q (.bl (PyData.eqv d e)) H) : gEq K x y H Q := .inr ⟨d, e, hd, he, s1, s2, h⟩
theorem g_ne_d {d e : PyData} (hd : Dp K H x d) (he : Dp K H y e) (s1 : SeqAt.shaped d = true) (s2 : SeqAt.shaped e = true) (h : Q (.bl (!PyData.eqv d e)) H) : gNe K x y H Q := .inr ⟨d, e, hd, he, s1, s2, h⟩
theorem g_lt_i {i j : Int} (h : Q (.bl (decide (i < j))) H) : gLt (.int i) (.int j) H Q := .inl ⟨i, j, rfl, rfl, h⟩
theorem g_le_i {i j : Int} (h : Q (.bl (decide (i ≤ j))) H) : gLe (.int i) (.int j) H Q := .inl ⟨i, j, rfl, rfl, h⟩
theorem g_gt_i {i j : Int} (h : Q (.bl (decide (j < i))) H) : gGt (.int i) (.int j) H Q := .inl ⟨i, j, rfl, rfl, h⟩
theorem g_ge_i {i j : Int} (h : Q (.bl (decide (j ≤ i))) H) : gGe (.int i) (.int j) H Q := .inl ⟨i, j, rfl, rfl, h⟩
theorem g_le_s {i j : Str} (h : Q (.bl (!decide (j.cps.toList < i.cps.toList))) H) : gLe (.str i) (.str j) H Q := .inr ⟨i, j, rfl, rfl, h⟩
theorem g_in_l {p : Addr} {xs : List V} (hp : SqL K H p xs ∨ SqT K H p xs) (hx : flatV x = true) (hf : xs.all flatV = true) (h : Q (.bl (inV x xs)) H) : gIn K x (.ref p) H Q := .inl ⟨p, xs, rfl, hp, hx, hf, h⟩
theorem g_ni_l {p : Addr} {xs : List V} (hp : SqL K H p xs ∨ SqT K H p xs) (hx : flatV x = true) (hf : xs.all flatV = true) (h : Q (.bl (!inV x xs)) H) : gNi K x (.ref p) H Q := .inl ⟨p, xs, rfl, hp, hx, hf, h⟩
theorem g_in_s {c : Nat} {z : Str} (h : Q (.bl (decide (c ∈ z.cps.toList))) H) : gIn K (.str ⟨#[c]⟩) (.str z) H Q := .inr ⟨c, z, rfl, rfl, h⟩
theorem g_ni_s {c : Nat} {z : Str} (h : Q (.bl (!decide (c ∈ z.cps.toList))) H) : gNi K (.str ⟨#[c]⟩) (.str z) H Q := .inr ⟨c, z, rfl, rfl, h⟩
theorem g_len_l {p : Addr} {xs : List V} (hp : SqL K H p xs ∨ SqT K H p xs) (h : Q (.int xs.length) H) : gLen K [.ref p] H Q := .inl ⟨p, xs, rfl, hp, h⟩
theorem g_len_s {z : Str} (hz : z.length ≤ 100000) (h : Q (.int z.length) H) : gLen K [.str z] H Q := .inr ⟨z, rfl, sz_of hz, h⟩
theorem g_ix_l {p : Addr} {xs : List V} {i : Int} (hp : SqL K H p xs) (hi : atI xs i = some v) (h : Q v H) : rIx K (.ref p) (.int i) H Q := .inl ⟨p, xs, i, v, rfl, rfl, hp, hi, h⟩
theorem g_ix_t {p : Addr} {xs : List V} {i : Int} (hp : SqT K H p xs) (hi : atI xs i = some v) (h : Q v H) : rIx K (.ref p) (.int i) H Q := .inr (.inl ⟨p, xs, i, v, rfl, rfl, hp, hi, h⟩)
theorem g_ix_s {z : Str} {i : Int} {c : Nat} (hz : z.length ≤ 100000) (hi : atI z.cps.toList i = some c) (h : Q (.str ⟨#[c]⟩) H) : rIx K (.str z) (.int i) H Q := .inr (.inr ⟨z, i, c, rfl, rfl, sz_of hz, hi, h⟩)
theorem g_sl_l {p : Addr} {xs : List V} {lo hi : Option Int} (hp : SqL K H p xs) (h : ∀ r H', H r = none → Ex H H' → H' r = some (.lst (cutV xs lo hi)) → Q (.ref r) H') : gSl K (.ref p) lo hi H Q :=
  .inl ⟨p, xs, rfl, hp, fun r hr => h r _ hr (Ex.new hr) upd_same⟩
theorem g_sl_s {z : Str} {lo hi : Option Int} (hz : z.length ≤ 100000) (h : Q (.str (cutS z lo hi)) H) : gSl K (.str z) lo hi H Q := .inr (.inr ⟨z, rfl, sz_of hz, h⟩)
theorem g_neg {i : Int} (h : Q (.int (-i)) H) : rU (fun i => .int (-i)) (.int i) H Q := ⟨i, rfl, h⟩
theorem g_isi {t u : Value} {cc : V} {b : Bool} (hc : ClsV cc u) (ht : TyX K H x t) (hk : PySem.W.kitOne K t u = some b) (h : Q (.bl b) H) : gIsi K [x, cc] H Q := .inl ⟨x, cc, t, u, b, rfl, hc, ht, hk, h⟩
theorem g_isiT {tp : Addr} {cs : List V} {t : Value} {us : List Value} {b : Bool} (hp : H tp = some (.tup cs)) (hc : Paired ClsV cs us) (ht : TyX K H x t) (hk : PySem.W.kitAny K t us = some b) (h : Q (.bl b) H) : gIsi K [x, .ref tp] H Q := .inr (.inl ⟨x, tp, cs, t, us, b, rfl, hp, hc, ht, hk, h⟩)
theorem g_isx {a D : Addr} {cc : V} {u : Value} {b : Bool} (ha : H a = some (ExK (.ref D) none a)) (C : ExcC K D) (hc : ClsV cc u) (hk : PySem.W.kitOne K (.ref D) u = some b) (h : Q (.bl b) H) : gIsi K [.ref a, cc] H Q := .inr (.inr ⟨a, D, cc, u, b, rfl, ha, C, hc, hk, h⟩)
theorem g_add_t {p q : Addr} {xs ys : List V} (hp : SqT K H p xs) (hq : SqT K H q ys) (hl : xs.length + ys.length ≤ 100000) (h : ∀ r H', Ex H H' → SqT K H' r (xs ++ ys) → Q (.ref r) H') : gAdd K (.ref p) (.ref q) H Q :=
  .inr (.inr (.inr ⟨p, q, xs, ys, rfl, rfl, hp, hq, sz_of hl, fun e => h q H (Ex.refl _) (by rw [e]; exact hq), fun _ e => h p H (Ex.refl _) (by rw [e, List.append_nil]; exact hp), fun _ _ r hr => h r _ (Ex.new hr) (.inl (.inl upd_same))⟩))
theorem g_rep {p : Addr} {xs : List V} {k : Int} (hp : H p = some (.lst xs)) (k0 : 0 ≤ k) (k1 : k ≤ 1000) (hl : xs.length ≤ 1000) (h : ∀ r H', H r = none → Ex H H' → H' r = some (.lst (List.replicate k.toNat xs).flatten) → Q (.ref r) H') : gMul (.ref p) (.int k) H Q :=
  .inr (.inl ⟨p, k, xs, rfl, rfl, hp, by omega, by omega, Nat.le_trans (Nat.mul_le_mul hl (show k.toNat ≤ 1000 by omega)) (by decide), fun r hr => h r _ hr (Ex.new hr) upd_same⟩)
theorem g_mul_s {z : Str} {k : Int} (k1 : 1 ≤ k) (k2 : k ≤ 1000) (hz : z.length ≤ 1000) (h : Q (.str (repS z k.toNat)) H) : gMul (.str z) (.int k) H Q := .inr (.inr ⟨z, k, rfl, rfl, k1, k2, hz, h⟩)
theorem g_sl_t {p : Addr} {xs : List V} {lo hi : Option Int} (hp : SqT K H p xs) (h : ∀ r H', Ex H H' → SqT K H' r (cutV xs lo hi) → Q (.ref r) H') : gSl K (.ref p) lo hi H Q :=
  .inr (.inl ⟨p, xs, rfl, hp, fun e => h p H (Ex.refl _) (by
    have z : cutV xs lo hi = xs := by unfold cutV; rw [e.1, e.2]; simp
    rw [z]; exact hp), fun _ r hr => h r _ (Ex.new hr) (.inl (.inl upd_same))⟩)
theorem g_all {p : Addr} {bs : List Bool} (hp : SqL K H p (bs.map V.bl)) (h : Q (.bl (bs.all id)) H) : rAll K [.ref p] H Q := ⟨p, bs, rfl, hp, h⟩
theorem g_any {p : Addr} {bs : List Bool} (hp : SqL K H p (bs.map V.bl)) (h : Q (.bl (bs.any id)) H) : rAny K [.ref p] H Q := ⟨p, bs, rfl, hp, h⟩
/-- len of what is handed on -/
theorem sq_l {p : Addr} {xs : List V} (h : H p = some (.lst xs)) : SqL K H p xs := .inl (.inl h)
theorem sq_t {p : Addr} {xs : List V} (h : H p = some (.tup xs)) : SqT K H p xs := .inl (.inl h)
theorem sq_kt {p : Addr} {xs : List V} {o : Obj} {u : HO} (h : SqL K H p xs) : SqL K H p xs ∨ SqT K H p xs := .inl h

theorem c_var0 {l : L2.St} (h : Q v H) : tVar 0 (some v :: l) H Q := ⟨v, rfl, h⟩
theorem c_asg0 {o : Option V} {l : L2.St} (h : te (o :: l) H fun v H1 => D.nx (some v :: l) H1) : tAsg te (gName 0) D (o :: l) H := h
theorem c_nam0 {o : Option V} {l : L2.St} {QS : L2.St → Hp → Prop} (h : QS (some v :: l) H) : gName 0 v (o :: l) H QS := h
theorem c_var1 {a0 : Option V} {l : L2.St} (h : Q v H) : tVar 1 (a0 :: some v :: l) H Q := ⟨v, rfl, h⟩
theorem c_asg1 {a0 : Option V} {o : Option V} {l : L2.St} (h : te (a0 :: o :: l) H fun v H1 => D.nx (a0 :: some v :: l) H1) : tAsg te (gName 1) D (a0 :: o :: l) H := h
theorem c_nam1 {a0 : Option V} {o : Option V} {l : L2.St} {QS : L2.St → Hp → Prop} (h : QS (a0 :: some v :: l) H) : gName 1 v (a0 :: o :: l) H QS := h
theorem c_var2 {a0 a1 : Option V} {l : L2.St} (h : Q v H) : tVar 2 (a0 :: a1 :: some v :: l) H Q := ⟨v, rfl, h⟩
theorem c_asg2 {a0 a1 : Option V} {o : Option V} {l : L2.St} (h : te (a0 :: a1 :: o :: l) H fun v H1 => D.nx (a0 :: a1 :: some v :: l) H1) : tAsg te (gName 2) D (a0 :: a1 :: o :: l) H := h
theorem c_nam2 {a0 a1 : Option V} {o : Option V} {l : L2.St} {QS : L2.St → Hp → Prop} (h : QS (a0 :: a1 :: some v :: l) H) : gName 2 v (a0 :: a1 :: o :: l) H QS := h
theorem c_var3 {a0 a1 a2 : Option V} {l : L2.St} (h : Q v H) : tVar 3 (a0 :: a1 :: a2 :: some v :: l) H Q := ⟨v, rfl, h⟩
theorem c_asg3 {a0 a1 a2 : Option V} {o : Option V} {l : L2.St} (h : te (a0 :: a1 :: a2 :: o :: l) H fun v H1 => D.nx (a0 :: a1 :: a2 :: some v :: l) H1) : tAsg te (gName 3) D (a0 :: a1 :: a2 :: o :: l) H := h
theorem c_nam3 {a0 a1 a2 : Option V} {o : Option V} {l : L2.St} {QS : L2.St → Hp → Prop} (h : QS (a0 :: a1 :: a2 :: some v :: l) H) : gName 3 v (a0 :: a1 :: a2 :: o :: l) H QS := h
theorem c_var4 {a0 a1 a2 a3 : Option V} {l : L2.St} (h : Q v H) : tVar 4 (a0 :: a1 :: a2 :: a3 :: some v :: l) H Q := ⟨v, rfl, h⟩
theorem c_asg4 {a0 a1 a2 a3 : Option V} {o : Option V} {l : L2.St} (h : te (a0 :: a1 :: a2 :: a3 :: o :: l) H fun v H1 => D.nx (a0 :: a1 :: a2 :: a3 :: some v :: l) H1) : tAsg te (gName 4) D (a0 :: a1 :: a2 :: a3 :: o :: l) H := h
theorem c_nam4 {a0 a1 a2 a3 : Option V} {o : Option V} {l : L2.St} {QS : L2.St → Hp → Prop} (h : QS (a0 :: a1 :: a2 :: a3 :: some v :: l) H) : gName 4 v (a0 :: a1 :: a2 :: a3 :: o :: l) H QS := h
theorem c_var5 {a0 a1 a2 a3 a4 : Option V} {l : L2.St} (h : Q v H) : tVar 5 (a0 :: a1 :: a2 :: a3 :: a4 :: some v :: l) H Q := ⟨v, rfl, h⟩
theorem c_asg5 {a0 a1 a2 a3 a4 : Option V} {o : Option V} {l : L2.St} (h : te (a0 :: a1 :: a2 :: a3 :: a4 :: o :: l) H fun v H1 => D.nx (a0 :: a1 :: a2 :: a3 :: a4 :: some v :: l) H1) : tAsg te (gName 5) D (a0 :: a1 :: a2 :: a3 :: a4 :: o :: l) H := h
theorem c_nam5 {a0 a1 a2 a3 a4 : Option V} {o : Option V} {l : L2.St} {QS : L2.St → Hp → Prop} (h : QS (a0 :: a1 :: a2 :: a3 :: a4 :: some v :: l) H) : gName 5 v (a0 :: a1 :: a2 :: a3 :: a4 :: o :: l) H QS := h
theorem c_var6 {a0 a1 a2 a3 a4 a5 : Option V} {l : L2.St} (h : Q v H) : tVar 6 (a0 :: a1 :: a2 :: a3 :: a4 :: a5 :: some v :: l) H Q := ⟨v, rfl, h⟩
theorem c_asg6 {a0 a1 a2 a3 a4 a5 : Option V} {o : Option V} {l : L2.St} (h : te (a0 :: a1 :: a2 :: a3 :: a4 :: a5 :: o :: l) H fun v H1 => D.nx (a0 :: a1 :: a2 :: a3 :: a4 :: a5 :: some v :: l) H1) : tAsg te (gName 6) D (a0 :: a1 :: a2 :: a3 :: a4 :: a5 :: o :: l) H := h
theorem c_nam6 {a0 a1 a2 a3 a4 a5 : Option V} {o : Option V} {l : L2.St} {QS : L2.St → Hp → Prop} (h : QS (a0 :: a1 :: a2 :: a3 :: a4 :: a5 :: some v :: l) H) : gName 6 v (a0 :: a1 :: a2 :: a3 :: a4 :: a5 :: o :: l) H QS := h
theorem c_var7 {a0 a1 a2 a3 a4 a5 a6 : Option V} {l : L2.St} (h : Q v H) : tVar 7 (a0 :: a1 :: a2 :: a3 :: a4 :: a5 :: a6 :: some v :: l) H Q := ⟨v, rfl, h⟩
theorem c_asg7 {a0 a1 a2 a3 a4 a5 a6 : Option V} {o : Option V} {l : L2.St} (h : te (a0 :: a1 :: a2 :: a3 :: a4 :: a5 :: a6 :: o :: l) H fun v H1 => D.nx (a0 :: a1 :: a2 :: a3 :: a4 :: a5 :: a6 :: some v :: l) H1) : tAsg te (gName 7) D (a0 :: a1 :: a2 :: a3 :: a4 :: a5 :: a6 :: o :: l) H := h
theorem c_nam7 {a0 a1 a2 a3 a4 a5 a6 : Option V} {o : Option V} {l : L2.St} {QS : L2.St → Hp → Prop} (h : QS (a0 :: a1 :: a2 :: a3 :: a4 :: a5 :: a6 :: some v :: l) H) : gName 7 v (a0 :: a1 :: a2 :: a3 :: a4 :: a5 :: a6 :: o :: l) H QS := h
theorem c_var8 {a0 a1 a2 a3 a4 a5 a6 a7 : Option V} {l : L2.St} (h : Q v H) : tVar 8 (a0 :: a1 :: a2 :: a3 :: a4 :: a5 :: a6 :: a7 :: some v :: l) H Q := ⟨v, rfl, h⟩
theorem c_asg8 {a0 a1 a2 a3 a4 a5 a6 a7 : Option V} {o : Option V} {l : L2.St} (h : te (a0 :: a1 :: a2 :: a3 :: a4 :: a5 :: a6 :: a7 :: o :: l) H fun v H1 => D.nx (a0 :: a1 :: a2 :: a3 :: a4 :: a5 :: a6 :: a7 :: some v :: l) H1) : tAsg te (gName 8) D (a0 :: a1 :: a2 :: a3 :: a4 :: a5 :: a6 :: a7 :: o :: l) H := h
theorem c_nam8 {a0 a1 a2 a3 a4 a5 a6 a7 : Option V} {o : Option V} {l : L2.St} {QS : L2.St → Hp → Prop} (h : QS (a0 :: a1 :: a2 :: a3 :: a4 :: a5 :: a6 :: a7 :: some v :: l) H) : gName 8 v (a0 :: a1 :: a2 :: a3 :: a4 :: a5 :: a6 :: a7 :: o :: l) H QS := h
theorem c_var9 {a0 a1 a2 a3 a4 a5 a6 a7 a8 : Option V} {l : L2.St} (h : Q v H) : tVar 9 (a0 :: a1 :: a2 :: a3 :: a4 :: a5 :: a6 :: a7 :: a8 :: some v :: l) H Q := ⟨v, rfl, h⟩
theorem c_asg9 {a0 a1 a2 a3 a4 a5 a6 a7 a8 : Option V} {o : Option V} {l : L2.St} (h : te (a0 :: a1 :: a2 :: a3 :: a4 :: a5 :: a6 :: a7 :: a8 :: o :: l) H fun v H1 => D.nx (a0 :: a1 :: a2 :: a3 :: a4 :: a5 :: a6 :: a7 :: a8 :: some v :: l) H1) : tAsg te (gName 9) D (a0 :: a1 :: a2 :: a3 :: a4 :: a5 :: a6 :: a7 :: a8 :: o :: l) H := h
theorem c_nam9 {a0 a1 a2 a3 a4 a5 a6 a7 a8 : Option V} {o : Option V} {l : L2.St} {QS : L2.St → Hp → Prop} (h : QS (a0 :: a1 :: a2 :: a3 :: a4 :: a5 :: a6 :: a7 :: a8 :: some v :: l) H) : gName 9 v (a0 :: a1 :: a2 :: a3 :: a4 :: a5 :: a6 :: a7 :: a8 :: o :: l) H QS := h
theorem c_var10 {a0 a1 a2 a3 a4 a5 a6 a7 a8 a9 : Option V} {l : L2.St} (h : Q v H) : tVar 10 (a0 :: a1 :: a2 :: a3 :: a4 :: a5 :: a6 :: a7 :: a8 :: a9 :: some v :: l) H Q := ⟨v, rfl, h⟩
theorem c_asg10 {a0 a1 a2 a3 a4 a5 a6 a7 a8 a9 : Option V} {o : Option V} {l : L2.St} (h : te (a0 :: a1 :: a2 :: a3 :: a4 :: a5 :: a6 :: a7 :: a8 :: a9 :: o :: l) H fun v H1 => D.nx (a0 :: a1 :: a2 :: a3 :: a4 :: a5 :: a6 :: a7 :: a8 :: a9 :: some v :: l) H1) : tAsg te (gName 10) D (a0 :: a1 :: a2 :: a3 :: a4 :: a5 :: a6 :: a7 :: a8 :: a9 :: o :: l) H := h
theorem c_nam10 {a0 a1 a2 a3 a4 a5 a6 a7 a8 a9 : Option V} {o : Option V} {l : L2.St} {QS : L2.St → Hp → Prop} (h : QS (a0 :: a1 :: a2 :: a3 :: a4 :: a5 :: a6 :: a7 :: a8 :: a9 :: some v :: l) H) : gName 10 v (a0 :: a1 :: a2 :: a3 :: a4 :: a5 :: a6 :: a7 :: a8 :: a9 :: o :: l) H QS := h
theorem c_var11 {a0 a1 a2 a3 a4 a5 a6 a7 a8 a9 a10 : Option V} {l : L2.St} (h : Q v H) : tVar 11 (a0 :: a1 :: a2 :: a3 :: a4 :: a5 :: a6 :: a7 :: a8 :: a9 :: a10 :: some v :: l) H Q := ⟨v, rfl, h⟩
theorem c_asg11 {a0 a1 a2 a3 a4 a5 a6 a7 a8 a9 a10 : Option V} {o : Option V} {l : L2.St} (h : te (a0 :: a1 :: a2 :: a3 :: a4 :: a5 :: a6 :: a7 :: a8 :: a9 :: a10 :: o :: l) H fun v H1 => D.nx (a0 :: a1 :: a2 :: a3 :: a4 :: a5 :: a6 :: a7 :: a8 :: a9 :: a10 :: some v :: l) H1) : tAsg te (gName 11) D (a0 :: a1 :: a2 :: a3 :: a4 :: a5 :: a6 :: a7 :: a8 :: a9 :: a10 :: o :: l) H := h
theorem c_nam11 {a0 a1 a2 a3 a4 a5 a6 a7 a8 a9 a10 : Option V} {o : Option V} {l : L2.St} {QS : L2.St → Hp → Prop} (h : QS (a0 :: a1 :: a2 :: a3 :: a4 :: a5 :: a6 :: a7 :: a8 :: a9 :: a10 :: some v :: l) H) : gName 11 v (a0 :: a1 :: a2 :: a3 :: a4 :: a5 :: a6 :: a7 :: a8 :: a9 :: a10 :: o :: l) H QS := h
theorem c_var12 {a0 a1 a2 a3 a4 a5 a6 a7 a8 a9 a10 a11 : Option V} {l : L2.St} (h : Q v H) : tVar 12 (a0 :: a1 :: a2 :: a3 :: a4 :: a5 :: a6 :: a7 :: a8 :: a9 :: a10 :: a11 :: some v :: l) H Q := ⟨v, rfl, h⟩
theorem c_asg12 {a0 a1 a2 a3 a4 a5 a6 a7 a8 a9 a10 a11 : Option V} {o : Option V} {l : L2.St} (h : te (a0 :: a1 :: a2 :: a3 :: a4 :: a5 :: a6 :: a7 :: a8 :: a9 :: a10 :: a11 :: o :: l) H fun v H1 => D.nx (a0 :: a1 :: a2 :: a3 :: a4 :: a5 :: a6 :: a7 :: a8 :: a9 :: a10 :: a11 :: some v :: l) H1) : tAsg te (gName 12) D (a0 :: a1 :: a2 :: a3 :: a4 :: a5 :: a6 :: a7 :: a8 :: a9 :: a10 :: a11 :: o :: l) H := h
theorem c_nam12 {a0 a1 a2 a3 a4 a5 a6 a7 a8 a9 a10 a11 : Option V} {o : Option V} {l : L2.St} {QS : L2.St → Hp → Prop} (h : QS (a0 :: a1 :: a2 :: a3 :: a4 :: a5 :: a6 :: a7 :: a8 :: a9 :: a10 :: a11 :: some v :: l) H) : gName 12 v (a0 :: a1 :: a2 :: a3 :: a4 :: a5 :: a6 :: a7 :: a8 :: a9 :: a10 :: a11 :: o :: l) H QS := h
theorem c_var13 {a0 a1 a2 a3 a4 a5 a6 a7 a8 a9 a10 a11 a12 : Option V} {l : L2.St} (h : Q v H) : tVar 13 (a0 :: a1 :: a2 :: a3 :: a4 :: a5 :: a6 :: a7 :: a8 :: a9 :: a10 :: a11 :: a12 :: some v :: l) H Q := ⟨v, rfl, h⟩
theorem c_asg13 {a0 a1 a2 a3 a4 a5 a6 a7 a8 a9 a10 a11 a12 : Option V} {o : Option V} {l : L2.St} (h : te (a0 :: a1 :: a2 :: a3 :: a4 :: a5 :: a6 :: a7 :: a8 :: a9 :: a10 :: a11 :: a12 :: o :: l) H fun v H1 => D.nx (a0 :: a1 :: a2 :: a3 :: a4 :: a5 :: a6 :: a7 :: a8 :: a9 :: a10 :: a11 :: a12 :: some v :: l) H1) : tAsg te (gName 13) D (a0 :: a1 :: a2 :: a3 :: a4 :: a5 :: a6 :: a7 :: a8 :: a9 :: a10 :: a11 :: a12 :: o :: l) H := h
theorem c_nam13 {a0 a1 a2 a3 a4 a5 a6 a7 a8 a9 a10 a11 a12 : Option V} {o : Option V} {l : L2.St} {QS : L2.St → Hp → Prop} (h : QS (a0 :: a1 :: a2 :: a3 :: a4 :: a5 :: a6 :: a7 :: a8 :: a9 :: a10 :: a11 :: a12 :: some v :: l) H) : gName 13 v (a0 :: a1 :: a2 :: a3 :: a4 :: a5 :: a6 :: a7 :: a8 :: a9 :: a10 :: a11 :: a12 :: o :: l) H QS := h
theorem c_var14 {a0 a1 a2 a3 a4 a5 a6 a7 a8 a9 a10 a11 a12 a13 : Option V} {l : L2.St} (h : Q v H) : tVar 14 (a0 :: a1 :: a2 :: a3 :: a4 :: a5 :: a6 :: a7 :: a8 :: a9 :: a10 :: a11 :: a12 :: a13 :: some v :: l) H Q := ⟨v, rfl, h⟩
theorem c_asg14 {a0 a1 a2 a3 a4 a5 a6 a7 a8 a9 a10 a11 a12 a13 : Option V} {o : Option V} {l : L2.St} (h : te (a0 :: a1 :: a2 :: a3 :: a4 :: a5 :: a6 :: a7 :: a8 :: a9 :: a10 :: a11 :: a12 :: a13 :: o :: l) H fun v H1 => D.nx (a0 :: a1 :: a2 :: a3 :: a4 :: a5 :: a6 :: a7 :: a8 :: a9 :: a10 :: a11 :: a12 :: a13 :: some v :: l) H1) : tAsg te (gName 14) D (a0 :: a1 :: a2 :: a3 :: a4 :: a5 :: a6 :: a7 :: a8 :: a9 :: a10 :: a11 :: a12 :: a13 :: o :: l) H := h
theorem c_nam14 {a0 a1 a2 a3 a4 a5 a6 a7 a8 a9 a10 a11 a12 a13 : Option V} {o : Option V} {l : L2.St} {QS : L2.St → Hp → Prop} (h : QS (a0 :: a1 :: a2 :: a3 :: a4 :: a5 :: a6 :: a7 :: a8 :: a9 :: a10 :: a11 :: a12 :: a13 :: some v :: l) H) : gName 14 v (a0 :: a1 :: a2 :: a3 :: a4 :: a5 :: a6 :: a7 :: a8 :: a9 :: a10 :: a11 :: a12 :: a13 :: o :: l) H QS := h
theorem c_var15 {a0 a1 a2 a3 a4 a5 a6 a7 a8 a9 a10 a11 a12 a13 a14 : Option V} {l : L2.St} (h : Q v H) : tVar 15 (a0 :: a1 :: a2 :: a3 :: a4 :: a5 :: a6 :: a7 :: a8 :: a9 :: a10 :: a11 :: a12 :: a13 :: a14 :: some v :: l) H Q := ⟨v, rfl, h⟩
theorem c_asg15 {a0 a1 a2 a3 a4 a5 a6 a7 a8 a9 a10 a11 a12 a13 a14 : Option V} {o : Option V} {l : L2.St} (h : te (a0 :: a1 :: a2 :: a3 :: a4 :: a5 :: a6 :: a7 :: a8 :: a9 :: a10 :: a11 :: a12 :: a13 :: a14 :: o :: l) H fun v H1 => D.nx (a0 :: a1 :: a2 :: a3 :: a4 :: a5 :: a6 :: a7 :: a8 :: a9 :: a10 :: a11 :: a12 :: a13 :: a14 :: some v :: l) H1) : tAsg te (gName 15) D (a0 :: a1 :: a2 :: a3 :: a4 :: a5 :: a6 :: a7 :: a8 :: a9 :: a10 :: a11 :: a12 :: a13 :: a14 :: o :: l) H := h
theorem c_nam15 {a0 a1 a2 a3 a4 a5 a6 a7 a8 a9 a10 a11 a12 a13 a14 : Option V} {o : Option V} {l : L2.St} {QS : L2.St → Hp → Prop} (h : QS (a0 :: a1 :: a2 :: a3 :: a4 :: a5 :: a6 :: a7 :: a8 :: a9 :: a10 :: a11 :: a12 :: a13 :: a14 :: some v :: l) H) : gName 15 v (a0 :: a1 :: a2 :: a3 :: a4 :: a5 :: a6 :: a7 :: a8 :: a9 :: a10 :: a11 :: a12 :: a13 :: a14 :: o :: l) H QS := h
theorem c_var16 {a0 a1 a2 a3 a4 a5 a6 a7 a8 a9 a10 a11 a12 a13 a14 a15 : Option V} {l : L2.St} (h : Q v H) : tVar 16 (a0 :: a1 :: a2 :: a3 :: a4 :: a5 :: a6 :: a7 :: a8 :: a9 :: a10 :: a11 :: a12 :: a13 :: a14 :: a15 :: some v :: l) H Q := ⟨v, rfl, h⟩
theorem c_asg16 {a0 a1 a2 a3 a4 a5 a6 a7 a8 a9 a10 a11 a12 a13 a14 a15 : Option V} {o : Option V} {l : L2.St} (h : te (a0 :: a1 :: a2 :: a3 :: a4 :: a5 :: a6 :: a7 :: a8 :: a9 :: a10 :: a11 :: a12 :: a13 :: a14 :: a15 :: o :: l) H fun v H1 => D.nx (a0 :: a1 :: a2 :: a3 :: a4 :: a5 :: a6 :: a7 :: a8 :: a9 :: a10 :: a11 :: a12 :: a13 :: a14 :: a15 :: some v :: l) H1) : tAsg te (gName 16) D (a0 :: a1 :: a2 :: a3 :: a4 :: a5 :: a6 :: a7 :: a8 :: a9 :: a10 :: a11 :: a12 :: a13 :: a14 :: a15 :: o :: l) H := h
theorem c_nam16 {a0 a1 a2 a3 a4 a5 a6 a7 a8 a9 a10 a11 a12 a13 a14 a15 : Option V} {o : Option V} {l : L2.St} {QS : L2.St → Hp → Prop} (h : QS (a0 :: a1 :: a2 :: a3 :: a4 :: a5 :: a6 :: a7 :: a8 :: a9 :: a10 :: a11 :: a12 :: a13 :: a14 :: a15 :: some v :: l) H) : gName 16 v (a0 :: a1 :: a2 :: a3 :: a4 :: a5 :: a6 :: a7 :: a8 :: a9 :: a10 :: a11 :: a12 :: a13 :: a14 :: a15 :: o :: l) H QS := h
theorem c_var17 {a0 a1 a2 a3 a4 a5 a6 a7 a8 a9 a10 a11 a12 a13 a14 a15 a16 : Option V} {l : L2.St} (h : Q v H) : tVar 17 (a0 :: a1 :: a2 :: a3 :: a4 :: a5 :: a6 :: a7 :: a8 :: a9 :: a10 :: a11 :: a12 :: a13 :: a14 :: a15 :: a16 :: some v :: l) H Q := ⟨v, rfl, h⟩
theorem c_asg17 {a0 a1 a2 a3 a4 a5 a6 a7 a8 a9 a10 a11 a12 a13 a14 a15 a16 : Option V} {o : Option V} {l : L2.St} (h : te (a0 :: a1 :: a2 :: a3 :: a4 :: a5 :: a6 :: a7 :: a8 :: a9 :: a10 :: a11 :: a12 :: a13 :: a14 :: a15 :: a16 :: o :: l) H fun v H1 => D.nx (a0 :: a1 :: a2 :: a3 :: a4 :: a5 :: a6 :: a7 :: a8 :: a9 :: a10 :: a11 :: a12 :: a13 :: a14 :: a15 :: a16 :: some v :: l) H1) : tAsg te (gName 17) D (a0 :: a1 :: a2 :: a3 :: a4 :: a5 :: a6 :: a7 :: a8 :: a9 :: a10 :: a11 :: a12 :: a13 :: a14 :: a15 :: a16 :: o :: l) H := h
theorem c_nam17 {a0 a1 a2 a3 a4 a5 a6 a7 a8 a9 a10 a11 a12 a13 a14 a15 a16 : Option V} {o : Option V} {l : L2.St} {QS : L2.St → Hp → Prop} (h : QS (a0 :: a1 :: a2 :: a3 :: a4 :: a5 :: a6 :: a7 :: a8 :: a9 :: a10 :: a11 :: a12 :: a13 :: a14 :: a15 :: a16 :: some v :: l) H) : gName 17 v (a0 :: a1 :: a2 :: a3 :: a4 :: a5 :: a6 :: a7 :: a8 :: a9 :: a10 :: a11 :: a12 :: a13 :: a14 :: a15 :: a16 :: o :: l) H QS := h
theorem c_var18 {a0 a1 a2 a3 a4 a5 a6 a7 a8 a9 a10 a11 a12 a13 a14 a15 a16 a17 : Option V} {l : L2.St} (h : Q v H) : tVar 18 (a0 :: a1 :: a2 :: a3 :: a4 :: a5 :: a6 :: a7 :: a8 :: a9 :: a10 :: a11 :: a12 :: a13 :: a14 :: a15 :: a16 :: a17 :: some v :: l) H Q := ⟨v, rfl, h⟩
theorem c_asg18 {a0 a1 a2 a3 a4 a5 a6 a7 a8 a9 a10 a11 a12 a13 a14 a15 a16 a17 : Option V} {o : Option V} {l : L2.St} (h : te (a0 :: a1 :: a2 :: a3 :: a4 :: a5 :: a6 :: a7 :: a8 :: a9 :: a10 :: a11 :: a12 :: a13 :: a14 :: a15 :: a16 :: a17 :: o :: l) H fun v H1 => D.nx (a0 :: a1 :: a2 :: a3 :: a4 :: a5 :: a6 :: a7 :: a8 :: a9 :: a10 :: a11 :: a12 :: a13 :: a14 :: a15 :: a16 :: a17 :: some v :: l) H1) : tAsg te (gName 18) D (a0 :: a1 :: a2 :: a3 :: a4 :: a5 :: a6 :: a7 :: a8 :: a9 :: a10 :: a11 :: a12 :: a13 :: a14 :: a15 :: a16 :: a17 :: o :: l) H := h
theorem c_nam18 {a0 a1 a2 a3 a4 a5 a6 a7 a8 a9 a10 a11 a12 a13 a14 a15 a16 a17 : Option V} {o : Option V} {l : L2.St} {QS : L2.St → Hp → Prop} (h : QS (a0 :: a1 :: a2 :: a3 :: a4 :: a5 :: a6 :: a7 :: a8 :: a9 :: a10 :: a11 :: a12 :: a13 :: a14 :: a15 :: a16 :: a17 :: some v :: l) H) : gName 18 v (a0 :: a1 :: a2 :: a3 :: a4 :: a5 :: a6 :: a7 :: a8 :: a9 :: a10 :: a11 :: a12 :: a13 :: a14 :: a15 :: a16 :: a17 :: o :: l) H QS := h
theorem c_var19 {a0 a1 a2 a3 a4 a5 a6 a7 a8 a9 a10 a11 a12 a13 a14 a15 a16 a17 a18 : Option V} {l : L2.St} (h : Q v H) : tVar 19 (a0 :: a1 :: a2 :: a3 :: a4 :: a5 :: a6 :: a7 :: a8 :: a9 :: a10 :: a11 :: a12 :: a13 :: a14 :: a15 :: a16 :: a17 :: a18 :: some v :: l) H Q := ⟨v, rfl, h⟩
theorem c_asg19 {a0 a1 a2 a3 a4 a5 a6 a7 a8 a9 a10 a11 a12 a13 a14 a15 a16 a17 a18 : Option V} {o : Option V} {l : L2.St} (h : te (a0 :: a1 :: a2 :: a3 :: a4 :: a5 :: a6 :: a7 :: a8 :: a9 :: a10 :: a11 :: a12 :: a13 :: a14 :: a15 :: a16 :: a17 :: a18 :: o :: l) H fun v H1 => D.nx (a0 :: a1 :: a2 :: a3 :: a4 :: a5 :: a6 :: a7 :: a8 :: a9 :: a10 :: a11 :: a12 :: a13 :: a14 :: a15 :: a16 :: a17 :: a18 :: some v :: l) H1) : tAsg te (gName 19) D (a0 :: a1 :: a2 :: a3 :: a4 :: a5 :: a6 :: a7 :: a8 :: a9 :: a10 :: a11 :: a12 :: a13 :: a14 :: a15 :: a16 :: a17 :: a18 :: o :: l) H := h
theorem c_nam19 {a0 a1 a2 a3 a4 a5 a6 a7 a8 a9 a10 a11 a12 a13 a14 a15 a16 a17 a18 : Option V} {o : Option V} {l : L2.St} {QS : L2.St → Hp → Prop} (h : QS (a0 :: a1 :: a2 :: a3 :: a4 :: a5 :: a6 :: a7 :: a8 :: a9 :: a10 :: a11 :: a12 :: a13 :: a14 :: a15 :: a16 :: a17 :: a18 :: some v :: l) H) : gName 19 v (a0 :: a1 :: a2 :: a3 :: a4 :: a5 :: a6 :: a7 :: a8 :: a9 :: a10 :: a11 :: a12 :: a13 :: a14 :: a15 :: a16 :: a17 :: a18 :: o :: l) H QS := h
theorem c_var20 {a0 a1 a2 a3 a4 a5 a6 a7 a8 a9 a10 a11 a12 a13 a14 a15 a16 a17 a18 a19 : Option V} {l : L2.St} (h : Q v H) : tVar 20 (a0 :: a1 :: a2 :: a3 :: a4 :: a5 :: a6 :: a7 :: a8 :: a9 :: a10 :: a11 :: a12 :: a13 :: a14 :: a15 :: a16 :: a17 :: a18 :: a19 :: some v :: l) H Q := ⟨v, rfl, h⟩
theorem c_asg20 {a0 a1 a2 a3 a4 a5 a6 a7 a8 a9 a10 a11 a12 a13 a14 a15 a16 a17 a18 a19 : Option V} {o : Option V} {l : L2.St} (h : te (a0 :: a1 :: a2 :: a3 :: a4 :: a5 :: a6 :: a7 :: a8 :: a9 :: a10 :: a11 :: a12 :: a13 :: a14 :: a15 :: a16 :: a17 :: a18 :: a19 :: o :: l) H fun v H1 => D.nx (a0 :: a1 :: a2 :: a3 :: a4 :: a5 :: a6 :: a7 :: a8 :: a9 :: a10 :: a11 :: a12 :: a13 :: a14 :: a15 :: a16 :: a17 :: a18 :: a19 :: some v :: l) H1) : tAsg te (gName 20) D (a0 :: a1 :: a2 :: a3 :: a4 :: a5 :: a6 :: a7 :: a8 :: a9 :: a10 :: a11 :: a12 :: a13 :: a14 :: a15 :: a16 :: a17 :: a18 :: a19 :: o :: l) H := h
theorem c_nam20 {a0 a1 a2 a3 a4 a5 a6 a7 a8 a9 a10 a11 a12 a13 a14 a15 a16 a17 a18 a19 : Option V} {o : Option V} {l : L2.St} {QS : L2.St → Hp → Prop} (h : QS (a0 :: a1 :: a2 :: a3 :: a4 :: a5 :: a6 :: a7 :: a8 :: a9 :: a10 :: a11 :: a12 :: a13 :: a14 :: a15 :: a16 :: a17 :: a18 :: a19 :: some v :: l) H) : gName 20 v (a0 :: a1 :: a2 :: a3 :: a4 :: a5 :: a6 :: a7 :: a8 :: a9 :: a10 :: a11 :: a12 :: a13 :: a14 :: a15 :: a16 :: a17 :: a18 :: a19 :: o :: l) H QS := h
theorem c_var21 {a0 a1 a2 a3 a4 a5 a6 a7 a8 a9 a10 a11 a12 a13 a14 a15 a16 a17 a18 a19 a20 : Option V} {l : L2.St} (h : Q v H) : tVar 21 (a0 :: a1 :: a2 :: a3 :: a4 :: a5 :: a6 :: a7 :: a8 :: a9 :: a10 :: a11 :: a12 :: a13 :: a14 :: a15 :: a16 :: a17 :: a18 :: a19 :: a20 :: some v :: l) H Q := ⟨v, rfl, h⟩
theorem c_asg21 {a0 a1 a2 a3 a4 a5 a6 a7 a8 a9 a10 a11 a12 a13 a14 a15 a16 a17 a18 a19 a20 : Option V} {o : Option V} {l : L2.St} (h : te (a0 :: a1 :: a2 :: a3 :: a4 :: a5 :: a6 :: a7 :: a8 :: a9 :: a10 :: a11 :: a12 :: a13 :: a14 :: a15 :: a16 :: a17 :: a18 :: a19 :: a20 :: o :: l) H fun v H1 => D.nx (a0 :: a1 :: a2 :: a3 :: a4 :: a5 :: a6 :: a7 :: a8 :: a9 :: a10 :: a11 :: a12 :: a13 :: a14 :: a15 :: a16 :: a17 :: a18 :: a19 :: a20 :: some v :: l) H1) : tAsg te (gName 21) D (a0 :: a1 :: a2 :: a3 :: a4 :: a5 :: a6 :: a7 :: a8 :: a9 :: a10 :: a11 :: a12 :: a13 :: a14 :: a15 :: a16 :: a17 :: a18 :: a19 :: a20 :: o :: l) H := h
theorem c_nam21 {a0 a1 a2 a3 a4 a5 a6 a7 a8 a9 a10 a11 a12 a13 a14 a15 a16 a17 a18 a19 a20 : Option V} {o : Option V} {l : L2.St} {QS : L2.St → Hp → Prop} (h : QS (a0 :: a1 :: a2 :: a3 :: a4 :: a5 :: a6 :: a7 :: a8 :: a9 :: a10 :: a11 :: a12 :: a13 :: a14 :: a15 :: a16 :: a17 :: a18 :: a19 :: a20 :: some v :: l) H) : gName 21 v (a0 :: a1 :: a2 :: a3 :: a4 :: a5 :: a6 :: a7 :: a8 :: a9 :: a10 :: a11 :: a12 :: a13 :: a14 :: a15 :: a16 :: a17 :: a18 :: a19 :: a20 :: o :: l) H QS := h
theorem c_var22 {a0 a1 a2 a3 a4 a5 a6 a7 a8 a9 a10 a11 a12 a13 a14 a15 a16 a17 a18 a19 a20 a21 : Option V} {l : L2.St} (h : Q v H) : tVar 22 (a0 :: a1 :: a2 :: a3 :: a4 :: a5 :: a6 :: a7 :: a8 :: a9 :: a10 :: a11 :: a12 :: a13 :: a14 :: a15 :: a16 :: a17 :: a18 :: a19 :: a20 :: a21 :: some v :: l) H Q := ⟨v, rfl, h⟩
theorem c_asg22 {a0 a1 a2 a3 a4 a5 a6 a7 a8 a9 a10 a11 a12 a13 a14 a15 a16 a17 a18 a19 a20 a21 : Option V} {o : Option V} {l : L2.St} (h : te (a0 :: a1 :: a2 :: a3 :: a4 :: a5 :: a6 :: a7 :: a8 :: a9 :: a10 :: a11 :: a12 :: a13 :: a14 :: a15 :: a16 :: a17 :: a18 :: a19 :: a20 :: a21 :: o :: l) H fun v H1 => D.nx (a0 :: a1 :: a2 :: a3 :: a4 :: a5 :: a6 :: a7 :: a8 :: a9 :: a10 :: a11 :: a12 :: a13 :: a14 :: a15 :: a16 :: a17 :: a18 :: a19 :: a20 :: a21 :: some v :: l) H1) : tAsg te (gName 22) D (a0 :: a1 :: a2 :: a3 :: a4 :: a5 :: a6 :: a7 :: a8 :: a9 :: a10 :: a11 :: a12 :: a13 :: a14 :: a15 :: a16 :: a17 :: a18 :: a19 :: a20 :: a21 :: o :: l) H := h
theorem c_nam22 {a0 a1 a2 a3 a4 a5 a6 a7 a8 a9 a10 a11 a12 a13 a14 a15 a16 a17 a18 a19 a20 a21 : Option V} {o : Option V} {l : L2.St} {QS : L2.St → Hp → Prop} (h : QS (a0 :: a1 :: a2 :: a3 :: a4 :: a5 :: a6 :: a7 :: a8 :: a9 :: a10 :: a11 :: a12 :: a13 :: a14 :: a15 :: a16 :: a17 :: a18 :: a19 :: a20 :: a21 :: some v :: l) H) : gName 22 v (a0 :: a1 :: a2 :: a3 :: a4 :: a5 :: a6 :: a7 :: a8 :: a9 :: a10 :: a11 :: a12 :: a13 :: a14 :: a15 :: a16 :: a17 :: a18 :: a19 :: a20 :: a21 :: o :: l) H QS := h
theorem c_var23 {a0 a1 a2 a3 a4 a5 a6 a7 a8 a9 a10 a11 a12 a13 a14 a15 a16 a17 a18 a19 a20 a21 a22 : Option V} {l : L2.St} (h : Q v H) : tVar 23 (a0 :: a1 :: a2 :: a3 :: a4 :: a5 :: a6 :: a7 :: a8 :: a9 :: a10 :: a11 :: a12 :: a13 :: a14 :: a15 :: a16 :: a17 :: a18 :: a19 :: a20 :: a21 :: a22 :: some v :: l) H Q := ⟨v, rfl, h⟩
theorem c_asg23 {a0 a1 a2 a3 a4 a5 a6 a7 a8 a9 a10 a11 a12 a13 a14 a15 a16 a17 a18 a19 a20 a21 a22 : Option V} {o : Option V} {l : L2.St} (h : te (a0 :: a1 :: a2 :: a3 :: a4 :: a5 :: a6 :: a7 :: a8 :: a9 :: a10 :: a11 :: a12 :: a13 :: a14 :: a15 :: a16 :: a17 :: a18 :: a19 :: a20 :: a21 :: a22 :: o :: l) H fun v H1 => D.nx (a0 :: a1 :: a2 :: a3 :: a4 :: a5 :: a6 :: a7 :: a8 :: a9 :: a10 :: a11 :: a12 :: a13 :: a14 :: a15 :: a16 :: a17 :: a18 :: a19 :: a20 :: a21 :: a22 :: some v :: l) H1) : tAsg te (gName 23) D (a0 :: a1 :: a2 :: a3 :: a4 :: a5 :: a6 :: a7 :: a8 :: a9 :: a10 :: a11 :: a12 :: a13 :: a14 :: a15 :: a16 :: a17 :: a18 :: a19 :: a20 :: a21 :: a22 :: o :: l) H := h
theorem c_nam23 {a0 a1 a2 a3 a4 a5 a6 a7 a8 a9 a10 a11 a12 a13 a14 a15 a16 a17 a18 a19 a20 a21 a22 : Option V} {o : Option V} {l : L2.St} {QS : L2.St → Hp → Prop} (h : QS (a0 :: a1 :: a2 :: a3 :: a4 :: a5 :: a6 :: a7 :: a8 :: a9 :: a10 :: a11 :: a12 :: a13 :: a14 :: a15 :: a16 :: a17 :: a18 :: a19 :: a20 :: a21 :: a22 :: some v :: l) H) : gName 23 v (a0 :: a1 :: a2 :: a3 :: a4 :: a5 :: a6 :: a7 :: a8 :: a9 :: a10 :: a11 :: a12 :: a13 :: a14 :: a15 :: a16 :: a17 :: a18 :: a19 :: a20 :: a21 :: a22 :: o :: l) H QS := h
end
end Gx
/-! loops, comprehensions, calls of built-ins by names, the law's draws -/
namespace Gx
open PySem PySem.Spec PyProof.Rows L2 Evl

def rAbs : List V → Hp → VK → Prop := fun xs H Q => ∃ i, xs = [.int i] ∧ Q (.int (if i < 0 then -i else i)) H
theorem call_abs1 {X : Cx} : CallR X (.builtin "abs") rAbs := call_abs
def rTupleS (K : PySem.W.Frag) : List V → Hp → VK → Prop := fun xs H Q => ∃ p ys, xs = [.ref p] ∧ ((SqL K H p ys ∧ ∀ l, H l = none → Q (.ref l) (upd H l (.tup ys))) ∨ (SqT K H p ys ∧ Q (.ref p) H))
theorem call_tuple1 {X : Cx} : CallR X (.type "tuple") (rTupleS X.K) := call_tuple_of
theorem call_list1 {X : Cx} : CallR X (.type "list") (rListS X.K) := call_list_of
def rJoin (K : PySem.W.Frag) : V → List V → Hp → VK → Prop := fun x xs H Q => ∃ a p, ∃ ys : List Str, x = .str a ∧ xs = [.ref p] ∧ (SqL K H p (ys.map V.str) ∨ SqT K H p (ys.map V.str)) ∧
    (ys.map (·.length)).sum + ys.length * a.length ≤ 16777216 ∧ Q (.str (Txt.join a ys)) H
theorem pe_joinR {X : Cx} {o e : Expr} {to te : TE} {apos pos : Pos} (ho : PE X o to) (he : PE X e te) (hs : starEach [e] X.env = [(false, eval e X.env)] := by rfl) (hbase : attributeBase o "join" X.env (eval o X.env) = eval o X.env := by rfl) (hline : (apos.endLine == pos.line) = true := by rfl) :
    PE X (.Call (.Attribute o "join" apos) [e] [] pos) (tM1 (rJoin X.K) to te) := pe_m1 F.slot_str_join F.type_str_join mt_join ho he hs hbase hline

section
variable {K : PySem.W.Frag} {σ : L2.St} {H : Hp} {Q : VK} {D : Ends} {ta tb tc te : TE} {x y v : V} {t u : TS} {tt uu : TT}
theorem c_yes {QB : Bool → Hp → Prop} (h : QB true H) : tYes σ H QB := h
theorem exget {H H' : Hp} {p : Addr} {o : HO} (e : Ex H H') (h : H p = some o) : H' p = some o := e _ _ h
theorem atI_in {α : Type} {xs : List α} {i : Int} (h0 : 0 ≤ i) (h1 : i < xs.length) : ∃ (k : Nat) (v : α), i = (k : Int) ∧ xs[k]? = some v ∧ v ∈ xs ∧ atI xs i = some v := by
  obtain ⟨k, rfl⟩ := Int.eq_ofNat_of_zero_le h0
  have hk : k < xs.length := by omega
  exact ⟨k, xs[k], rfl, List.getElem?_eq_getElem hk, List.getElem_mem hk, atI_nat (List.getElem?_eq_getElem hk)⟩
theorem ixN_in {n k : Nat} (h : k < n) : ixN n (k : Int) = some k := by
  unfold ixN
  rw [if_pos (by omega), if_pos (by omega)]; simp
/-- all but one object as they were -/
def Exb (p : Addr) (H H' : Hp) : Prop := ∀ a o, a ≠ p → H a = some o → H' a = some o
theorem Exb.upd {H : Hp} {p : Addr} {o : HO} : Exb p H (upd H p o) := fun a u ne h => by rw [upd_ne ne]; exact h
theorem exbget {H H' : Hp} {p a : Addr} {o : HO} (e : Exb p H H') (ne : a ≠ p) (h : H a = some o) : H' a = some o := e _ _ ne h
theorem c_sub {to ti : TE} {ts : TSet} {QS : L2.St → Hp → Prop} (h : to σ H fun o H1 => ti σ H1 fun i H2 => ts o i v H2 fun H3 => QS σ H3) : gSub to ti ts v σ H QS := h
theorem g_set {p : Addr} {xs : List V} {i : Int} {j : Nat} {QH : Hp → Prop} (hp : H p = some (.lst xs)) (hj : ixN xs.length i = some j) (h : ∀ H', Exb p H H' → H' p = some (.lst (xs.set j v)) → QH H') : rSetL (.ref p) (.int i) v H QH := ⟨p, xs, i, j, rfl, rfl, hp, hj, h _ Exb.upd upd_same⟩
/-- a written dict, pair by pair -/
def DK (p : Addr) (Q : VK) (ps : List (V × V)) (H2 : Hp) : Prop := H2 p = some (.dK []) ∧ ∃ kvs : List (Key × V), ps = kvs.map (fun kv => (kV kv.1, kv.2)) ∧ kvs.length ≤ 15 ∧ Q (.ref p) (upd H2 p (.dK (mergeK [] kvs)))
theorem c_disp {trs : List (TE × TE)} (h : ∀ p H0, H p = none → Ex H H0 → H0 p = some (.dK []) → tPairs trs σ H0 (DK p Q)) : tDisp trs σ H Q := fun p hp => h p _ hp (Ex.new hp) upd_same
theorem c_pair {tk tv : TE} {r : List (TE × TE)} {QP : List (V × V) → Hp → Prop} (h : tk σ H fun x H1 => tv σ H1 fun y H2 => tPairs r σ H2 fun ps H3 => QP ((x, y) :: ps) H3) : tPairs ((tk, tv) :: r) σ H QP := h
theorem c_pnil {QP : List (V × V) → Hp → Prop} (h : QP [] H) : tPairs [] σ H QP := h
theorem c_dk1s {H0 : Hp} {p : Addr} {z : Str} (n : H0 p = none) (e : Ex H0 H) (hp : H p = some (.dK [])) (h : ∀ H3, Ex H0 H3 → H3 p = some (.dK [(Sum.inr z, v)]) → Q (.ref p) H3) : DK p Q [(.str z, v)] H :=
  ⟨hp, [(Sum.inr z, v)], rfl, by simp, h _ (Ex.mut e n) upd_same⟩
theorem c_for {wi : TI} {g : TG} {tb : TS} (h : wi σ H fun J H1 => ∃ W : Nat → Nat → L2.St → Hp → Prop, (∃ m, W 0 m σ H1) ∧ ∀ i m σ H, W i m σ H →
      (J.stop i H ∧ D.nx σ H) ∨ (J.go i H ∧ ∃ N : L2.St → Hp → Prop, (∀ σ' H', N σ' H' → ∃ m', m' < m ∧ W (i + 1) m' σ' H') ∧ ∀ x H', J.yld i H x H' → g x σ H' fun σ2 H2 => tb { D with nx := N, ct := N, bk := D.nx } σ2 H2)) : tFor wi g tb D σ H := h
theorem c_iList {tl : TE} {R : It → Hp → Prop} (h : tl σ H fun x H1 => ∃ a, x = .ref a ∧ (∃ xs, SqL K H1 a xs) ∧ R (Itl K a) H1) : iList K tl σ H R := h
theorem c_iL {p : Addr} {xs : List V} {R : Addr → Prop} (hp : SqL K H p xs) (h : R p) : ∃ a, V.ref p = .ref a ∧ (∃ xs, SqL K H a xs) ∧ R a := ⟨p, rfl, ⟨xs, hp⟩, h⟩
theorem c_iTup {tl : TE} {R : It → Hp → Prop} (h : tl σ H fun x H1 => ∃ a, x = .ref a ∧ (∃ xs, SqT K H1 a xs) ∧ R (Itt K a) H1) : iTup K tl σ H R := h
theorem c_iT {p : Addr} {xs : List V} {R : Addr → Prop} (hp : SqT K H p xs) (h : R p) : ∃ a, V.ref p = .ref a ∧ (∃ xs, SqT K H a xs) ∧ R a := ⟨p, rfl, ⟨xs, hp⟩, h⟩
theorem c_iStr {te : TE} {R : It → Hp → Prop} (h : te σ H fun v H1 => ∃ x, v = .str x ∧ R (Its x) H1) : iStr te σ H R := h
theorem c_iS {z : Str} {R : Str → Prop} (h : R z) : ∃ x, V.str z = .str x ∧ R x := ⟨z, rfl, h⟩
theorem c_iRng1 {ta : TA} {R : It → Hp → Prop} (h : ta σ H fun vs H1 => ∃ j : Int, vs = [.int j] ∧ -(2 ^ 62) ≤ j ∧ j < 2 ^ 62 ∧ R (Itr 0 j.toNat) H1) : iRng1 ta σ H R := h
theorem c_iR1 {j : Int} {R : Int → Prop} (h1 : -(2 ^ 62) ≤ j) (h2 : j < 2 ^ 62) (h : R j) : ∃ k : Int, [V.int j] = [.int k] ∧ -(2 ^ 62) ≤ k ∧ k < 2 ^ 62 ∧ R k := ⟨j, rfl, h1, h2, h⟩
theorem c_lcW {wi : TI} {g : TG} {vs : List Nat} (h : wi σ H fun J H1 => ∀ D, H1 D = none → ∃ W : Nat → Nat → Hp → Prop, (∃ m, W 0 m (upd H1 D (.lst []))) ∧ ∀ i m H, W i m H →
  (J.stop i H ∧ Q (.ref D) H) ∨ (J.go i H ∧ ∃ Nx : Hp → Prop, (∀ H', Nx H' → ∃ m', m' < m ∧ W (i + 1) m' H') ∧ ∀ x H', J.yld i H x H' → g x (wipe σ vs) H' fun σ2 H2 => wipe σ2 vs = wipe σ vs ∧ tt σ2 H2 fun b H3 =>
    if b = true then te σ2 H3 fun y H4 => ∃ acc, H4 D = some (.lst acc) ∧ acc.length < sizeLine ∧ Nx (upd H4 D (.lst (acc ++ [y]))) else Nx H3)) : tLc wi g tt te vs σ H Q := h
/-- a comprehension by what its list is so far -/
theorem c_lc {J : It} {n : Nat} {G : Hp → Prop} {Y : Nat → Hp → V → Hp → Prop} (w : Walk J n G Y) (R : Nat → List V → Prop) {g : TG} {vs : List Nat} {H1 : Hp} {Qd : Addr → Hp → Prop} {σ0 : L2.St} (hw : wipe σ vs = σ0) (hn : n < 100000) (r0 : R 0 []) (hG : ∀ H', Ex H1 H' → G H')
    (hs : ∀ i acc x H2 H3 (Q1 : V → Hp → Prop) (Q0 : Hp → Prop), i < n → R i acc → Ex H1 H2 → Y i H2 x H3 → (∀ y H6, Ex H2 H6 → R (i + 1) (acc ++ [y]) → Q1 y H6) → (∀ H5, Ex H2 H5 → R (i + 1) acc → Q0 H5) →
      g x σ0 H3 fun σ2 H4 => wipe σ2 vs = σ0 ∧ tt σ2 H4 fun b H5 => if b = true then te σ2 H5 Q1 else Q0 H5)
    (hd : ∀ D H' xs, H1 D = none → Ex H1 H' → R n xs → xs.length ≤ n → H' D = some (.lst xs) → Qd D H') :
    ∀ (D : Addr), H1 D = none → ∃ W : Nat → Nat → Hp → Prop, (∃ m, W 0 m (upd H1 D (.lst []))) ∧ ∀ i m H, W i m H →
      (J.stop i H ∧ Qd D H) ∨ (J.go i H ∧ ∃ Nx : Hp → Prop, (∀ H', Nx H' → ∃ m', m' < m ∧ W (i + 1) m' H') ∧ ∀ x H', J.yld i H x H' → g x (wipe σ vs) H' fun σ2 H2 => wipe σ2 vs = wipe σ vs ∧ tt σ2 H2 fun b H3 =>
        if b = true then te σ2 H3 fun y H4 => ∃ acc, H4 D = some (.lst acc) ∧ acc.length < sizeLine ∧ Nx (upd H4 D (.lst (acc ++ [y]))) else Nx H3) := by
  intro D hD
  subst hw
  refine lc_it w (Qd := Qd D) (fun i H' => Ex H1 H' ∧ ∃ acc, R i acc ∧ acc.length ≤ i ∧ H' D = some (.lst acc)) ⟨Ex.new hD, [], r0, Nat.le_refl _, upd_same⟩ (fun i H' _ h => hG H' h.1) (fun i x H2 H3 hi ⟨e1, acc, ra, la, ea⟩ hy => ?_) (fun H' ⟨e1, acc, ra, la, ea⟩ => hd D H' acc hD e1 ra la ea)
  exact hs i acc x H2 H3 _ _ hi ra e1 hy (fun y H6 e2 r2 => ⟨acc, e2 _ _ ea, sz_lt (by omega), Ex.mut (e1.trans e2) hD, acc ++ [y], r2, by simp; omega, upd_same⟩) (fun H5 e2 r2 => ⟨e1.trans e2, acc, r2, by omega, e2 _ _ ea⟩)
end

/-! ### flat data compared -/
def dV : V → PyData
  | .non => .none
  | .bl b => .bool b
  | .int i => .int i
  | .str x => .str x
  | _ => .none
theorem dp_flat {K : PySem.W.Frag} {H : Hp} {v : V} (h : flatV v = true) : Dp K H v (dV v) := by
  cases v with
  | non => exact .non
  | bl b => exact .bl b
  | int i => exact .int i
  | str x => exact .str x
  | _ => cases h
theorem dpAll_flat {K : PySem.W.Frag} {H : Hp} : ∀ {xs : List V}, xs.all flatV = true → DpAll K H xs (xs.map dV)
  | [], _ => .nil
  | v :: xs, h => by
    rw [List.all_cons, Bool.and_eq_true] at h
    exact .cons (dp_flat h.1) (dpAll_flat h.2)
def okV : V → Bool
  | .non => true
  | .bl _ => true
  | .int _ => true
  | .str x => PyData.strOk x
  | _ => false
theorem ok_flat {v : V} (h : okV v = true) : flatV v = true := by
  cases v with
  | non => rfl
  | bl b => rfl
  | int i => rfl
  | str x => rfl
  | _ => cases h
theorem okAll_flat {xs : List V} (h : xs.all okV = true) : xs.all flatV = true := by
  rw [List.all_eq_true] at h ⊢
  exact fun x hx => ok_flat (h x hx)
theorem lay_dV {v : V} (h : okV v = true) : (dV v).canLay0 = true ∧ (dV v).depth = 0 := by
  cases v with
  | non => exact ⟨rfl, rfl⟩
  | bl b => exact ⟨rfl, rfl⟩
  | int i => exact ⟨rfl, rfl⟩
  | str x => exact ⟨h, rfl⟩
  | _ => cases h
theorem lay_all : ∀ {xs : List V}, xs.all okV = true → PyData.canLayAll0 (xs.map dV) = true ∧ PyData.depthAll (xs.map dV) = 0
  | [], _ => ⟨rfl, rfl⟩
  | v :: xs, h => by
    rw [List.all_cons, Bool.and_eq_true] at h
    obtain ⟨h1, h2⟩ := lay_dV h.1
    obtain ⟨h3, h4⟩ := lay_all h.2
    refine ⟨?_, ?_⟩
    · show ((dV v).canLay0 && PyData.canLayAll0 (xs.map dV)) = true
      rw [h1, h3]; rfl
    · show max (dV v).depth (PyData.depthAll (xs.map dV)) = 0
      rw [h2, h4]; rfl
theorem shaped_dV {v : V} (h : okV v = true) : SeqAt.shaped (dV v) = true := by
  unfold SeqAt.shaped
  obtain ⟨h1, h2⟩ := lay_dV h
  rw [h1, h2]; rfl
theorem shaped_l {xs : List V} (h : xs.all okV = true) : SeqAt.shaped (.list (xs.map dV)) = true := by
  obtain ⟨h1, h2⟩ := lay_all h
  have e1 : (PyData.list (xs.map dV)).canLay0 = true := by simpa [PyData.canLay0] using h1
  have e2 : (PyData.list (xs.map dV)).depth = 1 := by show PyData.depthAll (xs.map dV) + 1 = 1; rw [h2]
  unfold SeqAt.shaped
  rw [e1, e2]; rfl
theorem shaped_t {xs : List V} (h : xs.all okV = true) : SeqAt.shaped (.tuple (xs.map dV)) = true := by
  obtain ⟨h1, h2⟩ := lay_all h
  have e1 : (PyData.tuple (xs.map dV)).canLay0 = true := by simpa [PyData.canLay0] using h1
  have e2 : (PyData.tuple (xs.map dV)).depth = 1 := by show PyData.depthAll (xs.map dV) + 1 = 1; rw [h2]
  unfold SeqAt.shaped
  rw [e1, e2]; rfl
/-- a list beside the empty one -/
theorem g_eq_e {K : PySem.W.Frag} {H : Hp} {Q : VK} {p q : Addr} {xs : List V} (hp : SqL K H p xs) (hq : SqL K H q []) (hf : xs.all okV = true) (h : Q (.bl (decide (xs = []))) H) : gEq K (.ref p) (.ref q) H Q := by
  refine g_eq_d (.lst hp (dpAll_flat (okAll_flat hf))) (.lst hq .nil) (shaped_l hf) (shaped_l (xs := []) rfl) ?_
  cases xs with
  | nil => exact h
  | cons x xs => exact h
theorem g_ne_e {K : PySem.W.Frag} {H : Hp} {Q : VK} {p q : Addr} {xs : List V} (hp : SqL K H p xs) (hq : SqL K H q []) (hf : xs.all okV = true) (h : Q (.bl (!decide (xs = []))) H) : gNe K (.ref p) (.ref q) H Q := by
  refine g_ne_d (.lst hp (dpAll_flat (okAll_flat hf))) (.lst hq .nil) (shaped_l hf) (shaped_l (xs := []) rfl) ?_
  cases xs with
  | nil => exact h
  | cons x xs => exact h
theorem ok_int (ns : List Int) : (ns.map V.int).all okV = true := by rw [List.all_map, List.all_eq_true]; intro _ _; rfl
theorem flat_int (ns : List Int) : (ns.map V.int).all flatV = true := by rw [List.all_map, List.all_eq_true]; intro _ _; rfl
theorem flat_str (ns : List Str) : (ns.map V.str).all flatV = true := by rw [List.all_map, List.all_eq_true]; intro _ _; rfl
theorem cutV_mem {xs : List V} {lo hi : Option Int} {x : V} (h : x ∈ cutV xs lo hi) : x ∈ xs := List.mem_of_mem_drop (List.mem_of_mem_take h)

/-! ### the draws -/
def Gd (c : Addr) (xs : List V) : Prop := ∃ a b : Int, xs = [.ref c, .int a, .int b] ∧ 0 ≤ b ∧ b < 2147483647
def Gc (xs : List V) : Prop := ∃ ns : List Int, xs = ns.map V.int ∧ ns ≠ []
def Draw (H : Hp) (d : Addr) : Prop := ∃ c, H d = some (oL d (Gd c)) ∧ H c = some (oL c Gc) ∧ d ≠ c
theorem Draw.ex {H H' : Hp} {d : Addr} (e : Ex H H') (h : Draw H d) : Draw H' d := by
  obtain ⟨c, h1, h2, h3⟩ := h
  exact ⟨c, e _ _ h1, e _ _ h2, h3⟩
/-- all but two objects as they were -/
def Ex2 (d c : Addr) (H H' : Hp) : Prop := ∀ a o, a ≠ d → a ≠ c → H a = some o → H' a = some o
def sp_take0 : Sp := fun vs H Q _ => ∃ (d c : Addr) (size a b : Int) (ns : List Int), vs = [.ref d, .int size] ∧ H d = some (.lst [.ref c, .int a, .int b]) ∧ H c = some (.lst (ns.map V.int)) ∧ d ≠ c ∧ ns ≠ [] ∧ 0 ≤ b ∧ b < 2147483647 ∧ 0 < size ∧ size < 2 ^ 64 ∧
  ∀ n H1 a' b' ns', 0 ≤ n → n < size → H1 d = some (.lst [.ref c, .int a', .int b']) → 0 ≤ b' → b' < 2147483647 → H1 c = some (.lst (ns'.map V.int)) → ns' ≠ [] → Ex2 d c H H1 → Q (.int n) H1
def sp_take : Sp := fun vs H Q _ => ∃ (d : Addr) (size : Int), vs = [.ref d, .int size] ∧ Draw H d ∧ 0 < size ∧ size < 2 ^ 64 ∧ ∀ n H', 0 ≤ n → n < size → Ex H H' → Q (.int n) H'
theorem take_view {P : Program} {w : World} {K : PySem.W.Frag} {mg : Str → Option Value} {base : Heap} {k : Nat} {f : Addr} {fd : FuncData} {ps : List Str} (F : FnOk P w K mg base CX0 k f fd ps sp_take0) (hl : ps.length = 2) : FnOk P w K mg base CX0 k f fd ps sp_take := by
  refine FnOk.view F (fun vs H Q E ⟨d, size, h, _⟩ => by rw [h, hl]; rfl) (fun vs H Q E ⟨d, size, hv, ⟨c, hd, hc, ne⟩, s0, s1, q⟩ hp ok => ?_)
  obtain ⟨xs, ⟨a, b, rfl, b0, b1⟩, ok1, sh1⟩ := HOk.openL ok hd
  have hc1 : (upd H d (.lst [.ref c, .int a, .int b])) c = some (oL c Gc) := by rw [upd_ne (Ne.symm ne)]; exact hc
  obtain ⟨ys, ⟨ns, rfl, hns⟩, ok2, sh2⟩ := HOk.openL ok1 hc1
  refine ⟨_, ok2, sh1.trans sh2, d, c, size, a, b, ns, hv, by rw [upd_ne ne, upd_same], upd_same, ne, hns, b0, b1, s0, s1, fun n H1 a' b' ns' n0 n1 e1 b0' b1' e2 hns' ex hp' ok' => ?_⟩
  obtain ⟨ok3, sh3⟩ := HOk.shutL (G := Gd c) ok' e1 ⟨a', b', rfl, b0', b1'⟩
  have e2' : (upd H1 d (oL d (Gd c))) c = some (.lst (ns'.map V.int)) := by rw [upd_ne (Ne.symm ne)]; exact e2
  obtain ⟨ok4, sh4⟩ := HOk.shutL (G := Gc) ok3 e2' ⟨ns', rfl, hns'⟩
  refine ⟨_, ok4, sh3.trans sh4, q n _ n0 n1 fun x o ho => ?_⟩
  by_cases h1 : x = c
  · subst h1; rw [hc] at ho; cases ho; exact upd_same
  · rw [upd_ne h1]
    by_cases h2 : x = d
    · subst h2; rw [hd] at ho; cases ho; exact upd_same
    · rw [upd_ne h2]
      refine ex x o h2 h1 ?_
      rw [upd_ne h1, upd_ne h2]; exact ho
def sp_begin0 (K : PySem.W.Frag) : Sp := fun vs H Q _ => ∃ (a : Addr) (ns : List Int), vs = [.ref a] ∧ SqL K H a (ns.map V.int) ∧ ns.length ≤ 63 ∧
  ∀ d c H1 ms, H d = none → H c = none → d ≠ c → Ex H H1 → H1 d = some (.lst [.ref c, .int 0, .int 1]) → H1 c = some (.lst (ms.map V.int)) → ms ≠ [] → Q (.ref d) H1
def sp_begin (K : PySem.W.Frag) : Sp := fun vs H Q _ => ∃ (a : Addr) (ns : List Int), vs = [.ref a] ∧ SqL K H a (ns.map V.int) ∧ ns.length ≤ 63 ∧ ∀ d H1, Draw H1 d → Ex H H1 → Q (.ref d) H1
theorem begin_view {P : Program} {w : World} {K : PySem.W.Frag} {mg : Str → Option Value} {base : Heap} {k : Nat} {f : Addr} {fd : FuncData} {ps : List Str} (F : FnOk P w K mg base CX0 k f fd ps (sp_begin0 K)) (hl : ps.length = 1) : FnOk P w K mg base CX0 k f fd ps (sp_begin K) := by
  refine FnOk.view F (fun vs H Q E ⟨d, ns, h, _⟩ => by rw [h, hl]; rfl) (fun vs H Q E ⟨p, ns, hv, hs, hn, q⟩ hp ok => ?_)
  refine ⟨H, ok, Shp.refl H, p, ns, hv, hs, hn, fun d c H1 ms nd nc ne ex e1 e2 hm hp' ok' => ?_⟩
  obtain ⟨ok3, sh3⟩ := HOk.shutL (G := Gd c) ok' e1 ⟨0, 1, rfl, by omega, by omega⟩
  have e2' : (upd H1 d (oL d (Gd c))) c = some (.lst (ms.map V.int)) := by rw [upd_ne (Ne.symm ne)]; exact e2
  obtain ⟨ok4, sh4⟩ := HOk.shutL (G := Gc) ok3 e2' ⟨ms, rfl, hm⟩
  refine ⟨_, ok4, sh3.trans sh4, q d _ ⟨c, by rw [upd_ne ne, upd_same], upd_same, ne⟩ (Ex.mut (Ex.mut ex nd) nc)⟩
end Gx

/-! names, texts, things: the mathematics and the promises that the laws share -/
namespace Gx
open PySem PySem.Spec PyProof.Rows L2 Evl

def isLet (c : Nat) : Bool := decide (97 ≤ c ∧ c ≤ 122)
def abcS : Str := "abcdefghijklmnopqrstuvwxyz"
theorem mem_abc (c : Nat) : c ∈ abcS.cps.toList ↔ isLet c = true := by
  have e : abcS.cps.toList = [97, 98, 99, 100, 101, 102, 103, 104, 105, 106, 107, 108, 109, 110, 111, 112, 113, 114, 115, 116, 117, 118, 119, 120, 121, 122] := by decide +kernel
  rw [e]
  unfold isLet
  simp only [List.mem_cons, List.not_mem_nil, or_false, decide_eq_true_eq]
  omega
def taken : List Str := ["not", "never", "may"]
def nameS (z : Str) : Bool := decide (1 ≤ z.length ∧ z.length ≤ 8) && decide (z ∉ taken) && z.cps.toList.all isLet
theorem nameS_iff (z : Str) : nameS z = true ↔ (1 ≤ z.length ∧ z.length ≤ 8) ∧ z ∉ taken ∧ ∀ c ∈ z.cps.toList, isLet c = true := by
  unfold nameS
  rw [Bool.and_eq_true, Bool.and_eq_true, decide_eq_true_iff, decide_eq_true_iff, List.all_eq_true, and_assoc]
theorem okS_let {z : Str} (h : ∀ c ∈ z.cps.toList, isLet c = true) : okS z := fun c hc => by
  have := of_decide_eq_true (h c hc)
  omega
theorem nameS_ok {z : Str} (h : nameS z = true) : okS z := okS_let ((nameS_iff z).mp h).2.2
theorem nameS_len {z : Str} (h : nameS z = true) : z.length ≤ 8 := ((nameS_iff z).mp h).1.2
def isNm : V → Bool
  | .str z => nameS z
  | _ => false
theorem inV_strs (z : Str) (ys : List Str) : inV (.str z) (ys.map V.str) = decide (z ∈ ys) := by
  unfold inV
  rw [Bool.eq_iff_iff, List.any_eq_true, decide_eq_true_iff]
  constructor
  · rintro ⟨x, hx, e⟩
    obtain ⟨y, hy, rfl⟩ := List.mem_map.mp hx
    have : y = z := eq_of_beq (show (y == z) = true from e)
    rw [← this]; exact hy
  · intro h
    exact ⟨.str z, List.mem_map.mpr ⟨z, h, rfl⟩, show (z == z) = true from beq_self_eq_true z⟩

/-! ### things of any kind -/
def Thing (H : Hp) : V → Prop
  | .non => True
  | .bl _ => True
  | .int _ => True
  | .str z => z.length ≤ 1000 ∧ okS z
  | .ref a => (∃ xs, H a = some (.lst xs)) ∨ (∃ xs, H a = some (.tup xs)) ∨ ∃ kvs, H a = some (.dK kvs)
  | _ => False
theorem Thing.ex {H H' : Hp} {x : V} (e : Ex H H') (h : Thing H x) : Thing H' x := by
  cases x with
  | ref a =>
    rcases h with ⟨xs, h⟩ | ⟨xs, h⟩ | ⟨xs, h⟩
    · exact .inl ⟨xs, e _ _ h⟩
    · exact .inr (.inl ⟨xs, e _ _ h⟩)
    · exact .inr (.inr ⟨xs, e _ _ h⟩)
  | _ => exact h
def kinds : List String := ["NoneType", "bool", "int", "str", "list", "tuple", "dict"]
def subK (n m : String) : Bool := n == m || (n == "bool" && m == "int")
theorem kit_kinds {K : PySem.W.Frag} {n m : String} (hn : n ∈ kinds) (hm : m ∈ kinds) : PySem.W.kitOne K (.type n) (.type m) = some (subK n m) := by
  refine kit_ty ?_
  have h : ∀ n ∈ kinds, ∀ m ∈ kinds, kitB n m = some (subK n m) := by decide +kernel
  exact h n hn m hm
/-- the kind of a value that is no object -/
def kindV : V → String
  | .non => "NoneType"
  | .bl _ => "bool"
  | .int _ => "int"
  | .str _ => "str"
  | _ => "list"
def isStr : V → Bool
  | .str _ => true
  | _ => false
def isBl : V → Bool
  | .bl _ => true
  | _ => false
theorem thing_ty {K : PySem.W.Frag} {H : Hp} {x : V} (h : Thing H x) : ∃ n, n ∈ kinds ∧ TyX K H x (.type n) ∧ (n == "str") = isStr x ∧ (n == "bool") = isBl x := by
  cases x with
  | non => exact ⟨"NoneType", by decide, .base .non, show ("NoneType" == "str") = false by decide, show ("NoneType" == "bool") = false by decide⟩
  | bl b => exact ⟨"bool", by decide, .base (.bl b), show ("bool" == "str") = false by decide, show ("bool" == "bool") = true by decide⟩
  | int i => exact ⟨"int", by decide, .base (.int i), show ("int" == "str") = false by decide, show ("int" == "bool") = false by decide⟩
  | str z => exact ⟨"str", by decide, .base (.str z), show ("str" == "str") = true by decide, show ("str" == "bool") = false by decide⟩
  | ref a =>
    rcases h with ⟨xs, h⟩ | ⟨xs, h⟩ | ⟨xs, h⟩
    · exact ⟨"list", by decide, .base (.lst h), show ("list" == "str") = false by decide, show ("list" == "bool") = false by decide⟩
    · exact ⟨"tuple", by decide, .base (.tup h), show ("tuple" == "str") = false by decide, show ("tuple" == "bool") = false by decide⟩
    · exact ⟨"dict", by decide, .base (.dK h), show ("dict" == "str") = false by decide, show ("dict" == "bool") = false by decide⟩
  | _ => exact h.elim
theorem g_isi_str {K : PySem.W.Frag} {H : Hp} {Q : VK} {x : V} (h : Thing H x) (q : Q (.bl (isStr x)) H) : gIsi K [x, .ty "str"] H Q := by
  obtain ⟨n, hn, ht, e, _⟩ := thing_ty (K := K) h
  refine .inl ⟨x, _, _, _, _, rfl, .ty "str", ht, kit_kinds hn (by decide), ?_⟩
  rw [show subK n "str" = isStr x by unfold subK; rw [e]; cases isStr x <;> simp]
  exact q
theorem g_isi_bl {K : PySem.W.Frag} {H : Hp} {Q : VK} {x : V} (h : Thing H x) (q : Q (.bl (isBl x)) H) : gIsi K [x, .ty "bool"] H Q := by
  obtain ⟨n, hn, ht, _, e⟩ := thing_ty (K := K) h
  refine .inl ⟨x, _, _, _, _, rfl, .ty "bool", ht, kit_kinds hn (by decide), ?_⟩
  rw [show subK n "bool" = isBl x by unfold subK; rw [e]; cases isBl x <;> simp]
  exact q
/-! ### promises -/
def sp_is_small_letter (K : PySem.W.Frag) : Sp := fun vs H Q _ => ∃ c : Nat, vs = [.str ⟨#[c]⟩] ∧ ∀ H', Ex H H' → Q (.bl (isLet c)) H'
def sp_is_name (K : PySem.W.Frag) : Sp := fun vs H Q _ => ∃ x : V, vs = [x] ∧ Thing H x ∧ ∀ H', Ex H H' → Q (.bl (isNm x)) H'
def sp__law_begin (K : PySem.W.Frag) : Sp := sp_begin K
def sp__law_take (K : PySem.W.Frag) : Sp := sp_take
def sp__law_pick (K : PySem.W.Frag) : Sp := fun vs H Q _ => ∃ (d : Addr) (x : V), vs = [.ref d, x] ∧ Draw H d ∧
  ((∃ p xs, x = .ref p ∧ SqL K H p xs ∧ xs ≠ [] ∧ xs.length ≤ 100000 ∧ ∀ v H', v ∈ xs → Ex H H' → Q v H') ∨ (∃ z : Str, x = .str z ∧ 0 < z.length ∧ z.length ≤ 100000 ∧ ∀ c H', c ∈ z.cps.toList → Ex H H' → Q (.str ⟨#[c]⟩) H'))
def sp__law_word (K : PySem.W.Frag) : Sp := fun vs H Q _ => ∃ d : Addr, vs = [.ref d] ∧ Draw H d ∧ ∀ z H', nameS z = true → Ex H H' → Q (.str z) H'
section
variable {K : PySem.W.Frag} {H : Hp} {Q : VK} {E : XK} {d : Addr}
theorem c_take {size : Int} (hd : Draw H d) (h0 : 0 < size) (h1 : size < 2 ^ 64) (h : ∀ n H', 0 ≤ n → n < size → Ex H H' → Q (.int n) H') : sp__law_take K ([.ref d, .int size] ++ []) H Q E := ⟨d, size, rfl, hd, h0, h1, h⟩
theorem c_pickL {p : Addr} {xs : List V} (hd : Draw H d) (hp : SqL K H p xs) (h0 : xs ≠ []) (h1 : xs.length ≤ 100000) (h : ∀ v H', v ∈ xs → Ex H H' → Q v H') : sp__law_pick K ([.ref d, .ref p] ++ []) H Q E := ⟨d, .ref p, rfl, hd, .inl ⟨p, xs, rfl, hp, h0, h1, h⟩⟩
theorem c_pickS {z : Str} (hd : Draw H d) (h0 : 0 < z.length) (h1 : z.length ≤ 100000) (h : ∀ c H', c ∈ z.cps.toList → Ex H H' → Q (.str ⟨#[c]⟩) H') : sp__law_pick K ([.ref d, .str z] ++ []) H Q E := ⟨d, .str z, rfl, hd, .inr ⟨z, rfl, h0, h1, h⟩⟩
theorem c_word (hd : Draw H d) (h : ∀ z H', nameS z = true → Ex H H' → Q (.str z) H') : sp__law_word K ([.ref d] ++ []) H Q E := ⟨d, rfl, hd, h⟩
theorem c_isname {x : V} (hx : Thing H x) (h : ∀ H', Ex H H' → Q (.bl (isNm x)) H') : sp_is_name K ([x] ++ []) H Q E := ⟨x, rfl, hx, h⟩
theorem c_issmall {c : Nat} (h : ∀ H', Ex H H' → Q (.bl (isLet c)) H') : sp_is_small_letter K ([.str ⟨#[c]⟩] ++ []) H Q E := ⟨c, rfl, h⟩
end
end Gx

/-! rules: what a thing handed in is, what a Rule is, the promises of the program's own defs -/
namespace Gx
open PySem PySem.Spec PyProof.Rows L2 Evl
/-- where the program's classes stand -/
structure Ads where
  (GroundError BadName BadNames BadRule BadRules NotPlain NoText NotHeld IsHeld BadSets TooMany NoRule NoDeed Twice NotThere NoLog BadRanks Needed BadWay Contrary BadStep BadParts Rule Telling Network Keeper Machine Desk dB dU : Addr)
theorem sqT_ty {K : PySem.W.Frag} {H : Hp} {p : Addr} {xs : List V} (h : SqT K H p xs) : TyX K H (.ref p) (.type "tuple") := by
  rcases h with (h | ⟨o, h⟩) | ⟨o, its, n, h, hc, _⟩
  · exact .base (.tup h)
  · exact .fTuple h
  · exact .kTuple h hc
theorem sqL_ty {K : PySem.W.Frag} {H : Hp} {p : Addr} {xs : List V} (h : SqL K H p xs) : TyX K H (.ref p) (.type "list") := by
  rcases h with (h | ⟨o, h⟩) | ⟨o, its, n, h, hc, _⟩
  · exact .base (.lst h)
  · exact .base (.frz h)
  · exact .kList h hc
/-- a thing handed in where a list is wanted: its items, if it is a list or a tuple -/
def Arg (K : PySem.W.Frag) (H : Hp) (x : V) : Option (List V) → Prop
  | some xs => (∃ p, x = .ref p ∧ (SqL K H p xs ∨ SqT K H p xs)) ∧ xs.length ≤ 1000 ∧ ∀ v ∈ xs, Thing H v
  | none => ∃ n, n ∈ kinds ∧ n ≠ "list" ∧ n ≠ "tuple" ∧ TyX K H x (.type n)
theorem tyX_ex {K : PySem.W.Frag} {H H' : Hp} {x : V} {n : String} (e : Ex H H') (h : TyX K H x (.type n)) : TyX K H' x (.type n) := by
  cases h with
  | base h =>
    cases h with
    | non => exact .base .non
    | bl b => exact .base (.bl b)
    | int i => exact .base (.int i)
    | str z => exact .base (.str z)
    | flt z => exact .base (.flt z)
    | lst q => exact .base (.lst (e _ _ q))
    | frz q => exact .base (.frz (e _ _ q))
    | tup q => exact .base (.tup (e _ _ q))
    | dK q => exact .base (.dK (e _ _ q))
    | dT q => exact .base (.dT (e _ _ q))
  | byt b => exact .byt b
  | set q => exact .set (e _ _ q)
  | kList q c => exact .kList q c
  | kTuple q c => exact .kTuple q c
  | kDict q c => exact .kDict q c
  | fTuple q => exact .fTuple (e _ _ q)
  | fDict q => exact .fDict (e _ _ q)
theorem Arg.ex {K : PySem.W.Frag} {H H' : Hp} {x : V} {o : Option (List V)} (e : Ex H H') (h : Arg K H x o) : Arg K H' x o := by
  cases o with
  | none => obtain ⟨n, h1, h2, h3, h4⟩ := h; exact ⟨n, h1, h2, h3, tyX_ex e h4⟩
  | some xs =>
    obtain ⟨⟨p, hp, h1⟩, h2, h3⟩ := h
    exact ⟨⟨p, hp, h1.elim (fun q => .inl (ex_l e q)) (fun q => .inr (ex_t e q))⟩, h2, fun v hv => (h3 v hv).ex e⟩
/-- a list of at most m unlike names -/
def nmsO : Option (List V) → Nat → Bool
  | some xs, m => decide (xs.length ≤ m) && (xs.all isNm && decide xs.Nodup)
  | none, _ => false
theorem nmsO_some (xs : List V) (m : Nat) : nmsO (some xs) m = (decide (xs.length ≤ m) && (xs.all isNm && decide xs.Nodup)) := rfl
theorem nms_strs : ∀ {xs : List V}, xs.all isNm = true → ∃ ss : List Str, xs = ss.map V.str ∧ ∀ z ∈ ss, nameS z = true
  | [], _ => ⟨[], rfl, by simp⟩
  | x :: xs, h => by
    rw [List.all_cons, Bool.and_eq_true] at h
    obtain ⟨ss, rfl, hs⟩ := nms_strs h.2
    cases x with
    | str z => exact ⟨z :: ss, rfl, fun y hy => (List.mem_cons.mp hy).elim (fun e => e ▸ h.1) (hs y)⟩
    | _ => exact absurd h.1 (by simp [isNm])
theorem nodup_strs {ss : List Str} : (ss.map V.str).Nodup ↔ ss.Nodup := by
  induction ss with
  | nil => simp
  | cons x xs ih =>
    rw [List.map_cons, List.nodup_cons, List.nodup_cons, ih]
    have : V.str x ∈ xs.map V.str ↔ x ∈ xs := by
      rw [List.mem_map]
      exact ⟨fun ⟨y, hy, e⟩ => V.str.inj e ▸ hy, fun h => ⟨x, h, rfl⟩⟩
    rw [this]
def goodR (h : V) (b u : Option (List V)) : Bool := (decide (h = .non) || isNm h) && (nmsO b 6 && nmsO u 4)
/-- the Rule at a: its head, the items of its body and unless -/
def IsRule (K : PySem.W.Frag) (Z : Ads) (H : Hp) (a : Addr) (h : V) (bd us : List V) : Prop :=
  ∃ dx pb pu, H a = some (.ins Z.Rule dx [("head", h), ("body", .ref pb), ("unless", .ref pu)]) ∧ SqT K H pb bd ∧ SqT K H pu us ∧ (decide (h = .non) || isNm h) = true ∧ nmsO (some bd) 6 = true ∧ nmsO (some us) 4 = true
theorem IsRule.ex {K : PySem.W.Frag} {Z : Ads} {H H' : Hp} {a : Addr} {h : V} {bd us : List V} (e : Ex H H') (r : IsRule K Z H a h bd us) : IsRule K Z H' a h bd us := by
  obtain ⟨dx, pb, pu, h1, h2, h3, r⟩ := r
  exact ⟨dx, pb, pu, e _ _ h1, ex_t e h2, ex_t e h3, r⟩
/-- what the class Rule says -/
structure RuleC (K : PySem.W.Frag) (C : Addr) : Prop where
  cls : Cls K C
  nh : NoAttr K C "head"
  nb : NoAttr K C "body"
  nu : NoAttr K C "unless"
  ha : PySem.W.findIn K (.ref C) "__class__" = some (some (.builtin "object.__class__"))
  hn : PySem.W.specialIn K (.builtin "object.__class__") "__get__" = some (some (.builtin "getset_descriptor.__get__"))
  ht : PySem.W.takesIn K (.builtin "object.__class__") = some true
  hm : PySem.W.mroIn K C (.type "object") = some true
  self : PySem.W.kitOne K (.ref C) (.ref C) = some true
  noStr : PySem.W.kitOne K (.ref C) (.type "str") = some false
  noTup : PySem.W.kitOne K (.ref C) (.type "tuple") = some false
  noLst : PySem.W.kitOne K (.ref C) (.type "list") = some false
  other : ∀ n, n ∈ kinds → PySem.W.kitOne K (.type n) (.ref C) = some false
  first : ∀ n, n ∈ kinds → PySem.W.notFirst K C (.type n) = true
  first1 : PySem.W.notFirst K C (.ref C) = true
theorem rule_ty {K : PySem.W.Frag} {Z : Ads} {H : Hp} {a dx : Addr} {fs : List (Str × V)} (R : RuleC K Z.Rule) (h : H a = some (.ins Z.Rule dx fs)) : TyX K H (.ref a) (.ref Z.Rule) := .base (.ins h R.cls R.ha R.hn R.ht R.hm)
/-! ### steps about instances -/
def SFld (K : PySem.W.Frag) (f : Str) (x y : V) (σ : L2.St) (D : Ends) (H2 : Hp) : Prop := ∃ a C dx fs, x = .ref a ∧ H2 a = some (.ins C dx fs) ∧ Cls K C ∧ NoAttr K C f ∧ fs.length < 1000 ∧ D.nx σ (upd H2 a (.ins C dx (putF f y fs)))
def GFld (K : PySem.W.Frag) (f : Str) (x : V) (H1 : Hp) (Q : VK) : Prop := ∃ a C dx fs v, x = .ref a ∧ H1 a = some (.ins C dx fs) ∧ Cls K C ∧ NoAttr K C f ∧ fs.lookup f = some v ∧ Q v H1
section
variable {K : PySem.W.Frag} {σ : L2.St} {H H' : Hp} {Q : VK} {D : Ends} {ta tv : TE} {f : Str} {a C dx p : Addr} {fs : List (Str × V)} {v y : V} {xs : List V}
theorem c_sfld (h : tv σ H fun y H1 => ta σ H1 fun x H2 => SFld K f x y σ D H2) : sFld K ta tv f D σ H := h
theorem g_sfld (ha : H a = some (.ins C dx fs)) (c : Cls K C) (n : NoAttr K C f) (hl : fs.length < 1000) (h : ∀ H', Exb a H H' → H' a = some (.ins C dx (putF f y fs)) → D.nx σ H') : SFld K f (.ref a) y σ D H := ⟨a, C, dx, fs, rfl, ha, c, n, hl, h _ Exb.upd upd_same⟩
theorem c_fld (h : ta σ H fun x H1 => GFld K f x H1 Q) : tFld K ta f σ H Q := h
theorem g_fld (ha : H a = some (.ins C dx fs)) (c : Cls K C) (n : NoAttr K C f) (hl : fs.lookup f = some v) (h : Q v H) : GFld K f (.ref a) H Q := ⟨a, C, dx, fs, v, rfl, ha, c, n, hl, h⟩
theorem c_raise {W : WX} (h : W (.ref C) none σ H) : tRaiseO C W D σ H := h
theorem g_tupleS (hp : SqL K H p xs ∨ SqT K H p xs) (h : ∀ r H', Ex H H' → SqT K H' r xs → Q (.ref r) H') : rTupleS K [.ref p] H Q := by
  rcases hp with hp | hp
  · exact ⟨p, xs, rfl, .inl ⟨hp, fun r hr => h r _ (Ex.new hr) (.inl (.inl upd_same))⟩⟩
  · exact ⟨p, xs, rfl, .inr ⟨hp, h p H (Ex.refl _) hp⟩⟩
theorem c_meth0 {m : Str} {sp : Sp} {E : XK} (h : ta σ H fun x H1 => ∃ a dx fs, x = .ref a ∧ H1 a = some (.ins C dx fs) ∧ fs.lookup m = none ∧ tNil σ H1 fun vs H2 => sp (x :: (vs ++ [])) H2 Q E) : tMeth C m sp [] E ta tNil σ H Q := h
/-- an instance is changed: what is none stays -/
def noIns : HO → Bool
  | .ins _ _ _ => false
  | _ => true
theorem exb_keep {o : HO} (ha : H a = some (.ins C dx fs)) (e : Exb a H H') (hp : H p = some o) (ho : noIns o = true) : H' p = some o := e _ _ (by
  rintro rfl
  rw [ha] at hp
  cases hp
  cases ho) hp
theorem sqT_exb (ha : H a = some (.ins C dx fs)) (e : Exb a H H') (h : SqT K H p xs) : SqT K H' p xs := by
  rcases h with (h | ⟨o, h⟩) | h
  · exact .inl (.inl (exb_keep ha e h rfl))
  · exact .inl (.inr ⟨o, exb_keep ha e h rfl⟩)
  · exact .inr h
theorem sqL_exb (ha : H a = some (.ins C dx fs)) (e : Exb a H H') (h : SqL K H p xs) : SqL K H' p xs := by
  rcases h with (h | ⟨o, h⟩) | h
  · exact .inl (.inl (exb_keep ha e h rfl))
  · exact .inl (.inr ⟨o, exb_keep ha e h rfl⟩)
  · exact .inr h
end
theorem nm_cases {h : V} (g : (decide (h = .non) || isNm h) = true) : h = .non ∨ ∃ z, h = .str z ∧ nameS z = true := by
  cases h with
  | non => exact .inl rfl
  | str z => exact .inr ⟨z, rfl, by simpa [isNm] using g⟩
  | _ => simp [isNm] at g
theorem nms_of {xs : List V} {m : Nat} (g : nmsO (some xs) m = true) : ∃ ss : List Str, xs = ss.map V.str ∧ (∀ z ∈ ss, nameS z = true) ∧ ss.Nodup ∧ ss.length ≤ m := by
  rw [nmsO_some, Bool.and_eq_true, Bool.and_eq_true] at g
  obtain ⟨g1, g2, g3⟩ := g
  obtain ⟨ss, rfl, hs⟩ := nms_strs g2
  exact ⟨ss, rfl, hs, nodup_strs.mp (of_decide_eq_true g3), by simpa using of_decide_eq_true g1⟩
theorem ok_names {ss : List Str} (h : ∀ z ∈ ss, nameS z = true) : (ss.map V.str).all okV = true := by
  rw [List.all_map, List.all_eq_true]
  exact fun z hz => (okS_iff z).mpr (nameS_ok (h z hz))
theorem eqv_strs : ∀ xs ys : List Str, PyData.eqvAll ((xs.map V.str).map dV) ((ys.map V.str).map dV) = decide (xs = ys)
  | [], [] => by simp [PyData.eqvAll]
  | [], y :: ys => by simp [PyData.eqvAll]
  | x :: xs, [] => by simp [PyData.eqvAll]
  | x :: xs, y :: ys => by
    show (PyData.eqv (.str x) (.str y) && PyData.eqvAll ((xs.map V.str).map dV) ((ys.map V.str).map dV)) = _
    rw [eqv_strs xs ys, show PyData.eqv (.str x) (.str y) = (x == y) by simp [PyData.eqv], Bool.eq_iff_iff]
    simp
theorem g_eq_tt {K : PySem.W.Frag} {H : Hp} {Q : VK} {p q : Addr} {xs ys : List Str} (hp : SqT K H p (xs.map V.str)) (hq : SqT K H q (ys.map V.str)) (h1 : ∀ z ∈ xs, nameS z = true) (h2 : ∀ z ∈ ys, nameS z = true) (h : Q (.bl (decide (xs = ys))) H) : gEq K (.ref p) (.ref q) H Q := by
  refine g_eq_d (.tup hp (dpAll_flat (okAll_flat (ok_names h1)))) (.tup hq (dpAll_flat (okAll_flat (ok_names h2)))) (shaped_t (ok_names h1)) (shaped_t (ok_names h2)) ?_
  rw [show PyData.eqv (.tuple ((xs.map V.str).map dV)) (.tuple ((ys.map V.str).map dV)) = decide (xs = ys) by
    rw [← eqv_strs]; simp [PyData.eqv]]
  exact h
/-! ### promises -/
def sp_is_names (K : PySem.W.Frag) : Sp := fun vs H Q _ => ∃ (x : V) (m : Nat) (o : Option (List V)), vs = [x, .int (m : Nat)] ∧ Arg K H x o ∧ m ≤ 1000 ∧ ∀ H', Ex H H' → Q (.bl (nmsO o m)) H'
def sp_Rule___init__ (K : PySem.W.Frag) (Z : Ads) : Sp := fun vs H Q E => ∃ (a dx : Addr) (h b u : V) (ob ou : Option (List V)), vs = [.ref a, h, b, u] ∧ H a = some (.ins Z.Rule dx []) ∧ Thing H h ∧ Arg K H b ob ∧ Arg K H u ou ∧ 
  (goodR h ob ou = true → ∀ H', Exb a H H' → IsRule K Z H' a h (ob.getD []) (ou.getD []) → Q .non H') ∧ (goodR h ob ou = false → ∀ H', Ex H H' → E (.ref Z.BadRule) none H')
def sp_Rule_told (K : PySem.W.Frag) (Z : Ads) : Sp := fun vs H Q _ => ∃ (a : Addr) (h : V) (bd us : List V), vs = [.ref a] ∧ IsRule K Z H a h bd us ∧ ∀ p pb pu H', Ex H H' → H' p = some (.tup [.str "rule", h, .ref pb, .ref pu]) → SqT K H' pb bd → SqT K H' pu us → Q (.ref p) H'
def sp_Rule___eq__ (K : PySem.W.Frag) (Z : Ads) : Sp := fun vs H Q _ => ∃ (a : Addr) (h y : V) (bd us : List V), vs = [.ref a, y] ∧ IsRule K Z H a h bd us ∧
  ((∃ n, n ∈ kinds ∧ TyX K H y (.type n) ∧ ∀ H', Ex H H' → Q (.bl false) H') ∨ (∃ b h' bd' us', y = .ref b ∧ IsRule K Z H b h' bd' us' ∧ ∀ H', Ex H H' → Q (.bl (decide (h = h') && (decide (bd = bd') && decide (us = us')))) H'))
theorem take_min {α : Type} (xs : List α) (i : Nat) : xs.take (min i xs.length) = xs.take i := by
  by_cases h : i ≤ xs.length
  · rw [Nat.min_eq_left h]
  · rw [Nat.min_eq_right (by omega), List.take_of_length_le (Nat.le_refl _), List.take_of_length_le (by omega)]
theorem cut_take (xs : List V) (i : Nat) : cutV xs none (some (i : Int)) = xs.take i := by
  unfold cutV
  rw [HT.sIx_none, HT.sIx_nat, List.drop_zero, Nat.sub_zero, take_min]
theorem cut_drop (xs : List V) (i : Nat) : cutV xs (some (i : Int)) none = xs.drop i := by
  unfold cutV
  rw [HT.sIx_none, HT.sIx_nat]
  by_cases h : i ≤ xs.length
  · rw [Nat.min_eq_left h]
    exact List.take_of_length_le (by rw [List.length_drop]; exact Nat.le_refl _)
  · rw [Nat.min_eq_right (by omega), List.drop_eq_nil_of_le (Nat.le_refl _), List.drop_eq_nil_of_le (by omega), List.take_nil]
theorem cutS_take (z : Str) (i : Nat) : (cutS z none (some (i : Int))).cps.toList = z.cps.toList.take i := by
  show (z.cps.toList.drop (HT.sIx z.length 0 none)).take (HT.sIx z.length z.length (some (i : Int)) - HT.sIx z.length 0 none) = _
  rw [HT.sIx_none, HT.sIx_nat, List.drop_zero, Nat.sub_zero, ← len_tl, take_min]
section
variable {K : PySem.W.Frag} {σ : L2.St} {H : Hp} {Q : VK} {QS : L2.St → Hp → Prop}
theorem c_iEnum {ta : TA} {R : It → Hp → Prop} (h : ta σ H fun vs H1 => ∃ a xs, vs = [.ref a] ∧ SqL K H1 a xs ∧ R (Ite K a) H1) : iEnum K ta σ H R := h
theorem c_iE {p : Addr} {xs : List V} {R : Addr → Prop} (hp : SqL K H p xs) (h : R p) : ∃ a ys, [V.ref p] = [.ref a] ∧ SqL K H a ys ∧ R a := ⟨p, xs, rfl, hp, h⟩
/-- a, b = a pair -/
theorem g_pair {p : Addr} {x y : V} {i j : Nat} (hp : SqT K H p [x, y]) (h : gName i x σ H fun σ1 H1 => gName j y σ1 H1 QS) : gTup K 2 (gCons (gName i) (gCons (gName j) gNil)) (.ref p) σ H QS :=
  ⟨p, [x, y], rfl, hp, rfl, x, [y], rfl, y, [], rfl, rfl, h⟩
theorem g_listS {p : Addr} {xs : List V} (hp : SqL K H p xs ∨ SqT K H p xs) (h : ∀ r H', H r = none → Ex H H' → H' r = some (.lst xs) → Q (.ref r) H') : rListS K [.ref p] H Q := ⟨p, xs, rfl, hp, fun r hr => h r _ hr (Ex.new hr) upd_same⟩
theorem c_bm {T : String} {r : V → List V → Hp → VK → Prop} {to : TE} {t : TA} (h : to σ H fun x H1 => tyV K T x H1 ∧ t σ H1 fun xs H2 => r x xs H2 Q) : tBM K T r to t σ H Q := h
theorem c_bm0 {T : String} {r : V → List V → Hp → VK → Prop} {to : TE} (h : to σ H fun x H1 => tyV K T x H1 ∧ r x [] H1 Q) : tBM0 K T r to σ H Q := h
theorem ty_l {p : Addr} {xs : List V} (hp : H p = some (.lst xs)) : tyV K "list" (.ref p) H := .inl ⟨rfl, _, sq_l hp⟩
theorem g_append {p : Addr} {xs : List V} {y : V} (hp : H p = some (.lst xs)) (hl : xs.length < 100000) (h : ∀ H', Exb p H H' → H' p = some (.lst (xs ++ [y])) → Q .non H') : rAppend (.ref p) [y] H Q := ⟨p, xs, y, rfl, rfl, hp, sz_lt hl, h _ Exb.upd upd_same⟩
theorem g_reverse {p : Addr} {xs : List V} (hp : H p = some (.lst xs)) (h : ∀ H', Exb p H H' → H' p = some (.lst xs.reverse) → Q .non H') : rReverse (.ref p) [] H Q := ⟨p, xs, rfl, rfl, hp, h _ Exb.upd upd_same⟩
/-- what was there ahead of a new list is there still -/
theorem ex_exb {H0 H1 H2 : Hp} {p : Addr} (e : Ex H0 H1) (n : H0 p = none) (b : Exb p H1 H2) : Ex H0 H2 := fun a o h => b a o (ne_of_none h n) (e a o h)
theorem g_rev {p : Addr} {xs : List V} {te : TE} (h : te σ H fun x H1 => ∃ a ys, x = .ref a ∧ SqL K H1 a ys ∧ ∀ p, H1 p = none → Q (.ref p) (upd H1 p (.lst ys.reverse))) : tRevL K te σ H Q := h
theorem g_revE {p : Addr} {xs : List V} (hp : SqL K H p xs) (h : ∀ r H', H r = none → Ex H H' → H' r = some (.lst xs.reverse) → Q (.ref r) H') : ∃ a ys, V.ref p = .ref a ∧ SqL K H a ys ∧ ∀ p, H p = none → Q (.ref p) (upd H p (.lst ys.reverse)) := ⟨p, xs, rfl, hp, fun r hr => h r _ hr (Ex.new hr) upd_same⟩
end
/-! ### a Rule is made -/
def MKP (C : Addr) (n m : Nat) (sp : Sp) (gV : List V → List V → List V) (E : XK) (Q : VK) (vs zs : List V) (H2 : Hp) : Prop := vs.length = n ∧ zs.length = m ∧
  ∀ a dx, H2 a = none → H2 dx = none → dx ≠ a → sp (gV (.ref a :: vs) zs) (upd (upd H2 dx (.own a)) a (.ins C dx [])) (fun v H3 => v = .non ∧ Q (.ref a) H3) E
theorem c_mk {σ : L2.St} {H : Hp} {Q : VK} {C : Addr} {n m : Nat} {sp : Sp} {gV : List V → List V → List V} {E : L2.St → XK} {t tk : TA} (h : t σ H fun vs H1 => tk σ H1 fun zs H2 => MKP C n m sp gV (E σ) Q vs zs H2) : tMk C n m sp gV E t tk σ H Q := h
theorem c_try {σ : L2.St} {H : Hp} {D : Ends} {K : PySem.W.Frag} {c : Value} {i : Nat} {tb : WX → TS} {ts : Addr → Value → Option Addr → TS} (h : tb (wKeep K c i ts D) D σ H) : tTryK K c i tb ts D σ H := h
theorem mk_rule {K : PySem.W.Frag} {Z : Ads} {n m : Nat} {gV : List V → List V → List V} {vs zs : List V} {Q : VK} {E : XK} {H : Hp} {h b u : V} {ob ou : Option (List V)} (hx : Thing H h) (hb : Arg K H b ob) (hu : Arg K H u ou)
    (good : goodR h ob ou = true → ∀ a H', H a = none → Ex H H' → IsRule K Z H' a h (ob.getD []) (ou.getD []) → Q (.ref a) H') (bad : goodR h ob ou = false → ∀ H', Ex H H' → E (.ref Z.BadRule) none H')
    (hn : vs.length = n := by rfl) (hm : zs.length = m := by rfl) (hg : ∀ a, gV (.ref a :: vs) zs = [.ref a, h, b, u] := by intro _; rfl) : MKP Z.Rule n m (sp_Rule___init__ K Z) gV E Q vs zs H := by
  refine ⟨hn, hm, fun a dx na ndx ne => ?_⟩
  rw [hg]
  have e : Ex H (upd (upd H dx (.own a)) a (.ins Z.Rule dx [])) := Ex.mut (Ex.new ndx) na
  exact ⟨a, dx, h, b, u, ob, ou, rfl, upd_same, hx.ex e, hb.ex e, hu.ex e, fun g H' eb r => ⟨rfl, good g a H' na (ex_exb e na eb) r⟩, fun g H' e' => bad g H' (e.trans e')⟩
end Gx

set_option maxHeartbeats 800000
/-! joins of ways, lists aside (Exl), things of kinds, candidates, made rules: what k02's readings needed beside -/
namespace Gx
open PySem PySem.Spec PyProof.Rows L2 Evl
local macro_rules | `(tactic| walk_at "get") => `(tactic| first
  | assumption
  | exact upd_same
  | ((with_reducible refine sq_l ?_); walk_at "get")
  | ((with_reducible refine sq_t ?_); walk_at "get")
  | ((with_reducible refine ex_l (by assumption) ?_); walk_at "get")
  | ((with_reducible refine ex_t (by assumption) ?_); walk_at "get")
  | ((with_reducible refine Draw.ex (by assumption) ?_); walk_at "get")
  | ((with_reducible refine Arg.ex (by assumption) ?_); walk_at "get")
  | ((with_reducible refine IsRule.ex (by assumption) ?_); walk_at "get")
  | ((with_reducible refine Thing.ex (by assumption) ?_); walk_at "get")
  | ((with_reducible refine exget (by assumption) ?_); walk_at "get"))
local macro_rules | `(tactic| walk_at "rd1") => `(tactic| first
  | (with_reducible refine c_seq ?_)
  | (with_reducible refine c_next ?_)
  | (with_reducible refine c_drop ?_)
  | (with_reducible refine c_ret ?_)
  | (with_reducible refine c_retN ?_)
  | (with_reducible refine c_ifs ?_)
  | (with_reducible refine c_c ?_)
  | (with_reducible refine c_op ?_)
  | (with_reducible refine c_un ?_)
  | (with_reducible refine c_cb ?_)
  | (with_reducible refine c_nil ?_)
  | (with_reducible refine c_cons ?_)
  | (with_reducible refine c_call ?_)
  | (with_reducible refine c_callK ?_)
  | (with_reducible refine c_test ?_)
  | (with_reducible refine c_tB ?_)
  | (with_reducible refine c_and ?_)
  | (with_reducible refine c_or ?_)
  | (with_reducible refine c_not ?_)
  | (with_reducible refine c_andV ?_)
  | (with_reducible refine c_orV ?_)
  | (with_reducible refine c_notV ?_)
  | (with_reducible refine c_if ?_)
  | (with_reducible refine c_chain ?_)
  | (with_reducible refine c_sl ?_)
  | (with_reducible refine c_nop ?_)
  | (with_reducible refine c_part ?_)
  | (with_reducible refine c_lst ?_)
  | (with_reducible refine c_tup ?_)
  | (with_reducible refine c_bl ?_)
  | (with_reducible refine c_blP ?_)
  | (with_reducible refine c_parti ?_)
  | (with_reducible refine c_t ?_)
  | (with_reducible refine c_f ?_)
  | (with_reducible refine g_add_i ?_)
  | (with_reducible refine g_sub_i ?_)
  | (with_reducible refine g_neg ?_)
  | (with_reducible refine g_eq_i ?_)
  | (with_reducible refine g_eq_st ?_)
  | (with_reducible refine g_eq_b ?_)
  | (with_reducible refine g_ne_i ?_)
  | (with_reducible refine g_ne_st ?_)
  | (with_reducible refine g_ne_b ?_)
  | (with_reducible refine g_lt_i ?_)
  | (with_reducible refine g_le_i ?_)
  | (with_reducible refine g_gt_i ?_)
  | (with_reducible refine g_ge_i ?_)
  | (with_reducible refine g_le_s ?_)
  | (with_reducible refine g_in_s ?_)
  | (with_reducible refine g_ni_s ?_)
  | (with_reducible refine c_brk ?_)
  | (with_reducible refine c_cont ?_)
  | (with_reducible refine c_for ?_)
  | (with_reducible refine c_lcW ?_)
  | (with_reducible refine c_iList ?_)
  | (with_reducible refine c_iTup ?_)
  | (with_reducible refine c_iStr ?_)
  | (with_reducible refine c_iRng1 ?_)
  | (with_reducible refine c_iS ?_)
  | (with_reducible refine c_yes ?_)
  | (with_reducible refine c_sub ?_)
  | (with_reducible refine c_pair ?_)
  | (with_reducible refine c_pnil ?_)
  | (with_reducible refine c_isn ?_)
  | (with_reducible refine c_notn ?_)
  | (with_reducible refine c_sfld ?_)
  | (with_reducible refine c_fld ?_)
  | (with_reducible refine c_raise ?_)
  | (with_reducible refine c_meth0 ?_)
  | (with_reducible refine c_iEnum ?_)
  | (with_reducible refine c_bm ?_)
  | (with_reducible refine c_bm0 ?_)
  | (with_reducible refine c_mk ?_)
  | (with_reducible refine c_try ?_)
  | (with_reducible refine c_var0 ?_)
  | (with_reducible refine c_asg0 ?_)
  | (with_reducible refine c_nam0 ?_)
  | (with_reducible refine c_var1 ?_)
  | (with_reducible refine c_asg1 ?_)
  | (with_reducible refine c_nam1 ?_)
  | (with_reducible refine c_var2 ?_)
  | (with_reducible refine c_asg2 ?_)
  | (with_reducible refine c_nam2 ?_)
  | (with_reducible refine c_var3 ?_)
  | (with_reducible refine c_asg3 ?_)
  | (with_reducible refine c_nam3 ?_)
  | (with_reducible refine c_var4 ?_)
  | (with_reducible refine c_asg4 ?_)
  | (with_reducible refine c_nam4 ?_)
  | (with_reducible refine c_var5 ?_)
  | (with_reducible refine c_asg5 ?_)
  | (with_reducible refine c_nam5 ?_)
  | (with_reducible refine c_var6 ?_)
  | (with_reducible refine c_asg6 ?_)
  | (with_reducible refine c_nam6 ?_)
  | (with_reducible refine c_var7 ?_)
  | (with_reducible refine c_asg7 ?_)
  | (with_reducible refine c_nam7 ?_)
  | (with_reducible refine c_var8 ?_)
  | (with_reducible refine c_asg8 ?_)
  | (with_reducible refine c_nam8 ?_)
  | (with_reducible refine c_var9 ?_)
  | (with_reducible refine c_asg9 ?_)
  | (with_reducible refine c_nam9 ?_)
  | (with_reducible refine c_var10 ?_)
  | (with_reducible refine c_asg10 ?_)
  | (with_reducible refine c_nam10 ?_)
  | (with_reducible refine c_var11 ?_)
  | (with_reducible refine c_asg11 ?_)
  | (with_reducible refine c_nam11 ?_)
  | (with_reducible refine c_var12 ?_)
  | (with_reducible refine c_asg12 ?_)
  | (with_reducible refine c_nam12 ?_)
  | (with_reducible refine c_var13 ?_)
  | (with_reducible refine c_asg13 ?_)
  | (with_reducible refine c_nam13 ?_)
  | (with_reducible refine c_var14 ?_)
  | (with_reducible refine c_asg14 ?_)
  | (with_reducible refine c_nam14 ?_)
  | (with_reducible refine c_var15 ?_)
  | (with_reducible refine c_asg15 ?_)
  | (with_reducible refine c_nam15 ?_)
  | (with_reducible refine c_asgG ?_)
  | ((with_reducible refine g_ix_l (xs := ?gxa) (v := ?gxb) ?gx1 ?gx2 ?gx3); (case gx1 => walk_at "get"); (case gx2 => rfl))
  | ((with_reducible refine g_len_l (xs := ?gxa) (.inl ?gx1) ?gx3); (case gx1 => walk_at "get"))
  | ((with_reducible refine g_mod_i ?gx1 ?gx3); (case gx1 => omega)))
local macro_rules | `(tactic| walk_at "rd") => `(tactic| repeat walk_at "rd1")
local macro_rules | `(tactic| walk_at "rs1") => `(tactic| first
  | (with_reducible refine c_next ?_)
  | (with_reducible refine c_drop ?_)
  | (with_reducible refine c_ret ?_)
  | (with_reducible refine c_retN ?_)
  | (with_reducible refine c_ifs ?_)
  | (with_reducible refine c_c ?_)
  | (with_reducible refine c_op ?_)
  | (with_reducible refine c_un ?_)
  | (with_reducible refine c_cb ?_)
  | (with_reducible refine c_nil ?_)
  | (with_reducible refine c_cons ?_)
  | (with_reducible refine c_call ?_)
  | (with_reducible refine c_callK ?_)
  | (with_reducible refine c_test ?_)
  | (with_reducible refine c_tB ?_)
  | (with_reducible refine c_and ?_)
  | (with_reducible refine c_or ?_)
  | (with_reducible refine c_not ?_)
  | (with_reducible refine c_andV ?_)
  | (with_reducible refine c_orV ?_)
  | (with_reducible refine c_notV ?_)
  | (with_reducible refine c_chain ?_)
  | (with_reducible refine c_sl ?_)
  | (with_reducible refine c_nop ?_)
  | (with_reducible refine c_part ?_)
  | (with_reducible refine c_lst ?_)
  | (with_reducible refine c_tup ?_)
  | (with_reducible refine c_bl ?_)
  | (with_reducible refine c_blP ?_)
  | (with_reducible refine c_parti ?_)
  | (with_reducible refine c_t ?_)
  | (with_reducible refine c_f ?_)
  | (with_reducible refine g_add_i ?_)
  | (with_reducible refine g_sub_i ?_)
  | (with_reducible refine g_neg ?_)
  | (with_reducible refine g_eq_i ?_)
  | (with_reducible refine g_eq_st ?_)
  | (with_reducible refine g_eq_b ?_)
  | (with_reducible refine g_ne_i ?_)
  | (with_reducible refine g_ne_st ?_)
  | (with_reducible refine g_ne_b ?_)
  | (with_reducible refine g_lt_i ?_)
  | (with_reducible refine g_le_i ?_)
  | (with_reducible refine g_gt_i ?_)
  | (with_reducible refine g_ge_i ?_)
  | (with_reducible refine g_le_s ?_)
  | (with_reducible refine g_in_s ?_)
  | (with_reducible refine g_ni_s ?_)
  | (with_reducible refine c_brk ?_)
  | (with_reducible refine c_cont ?_)
  | (with_reducible refine c_for ?_)
  | (with_reducible refine c_lcW ?_)
  | (with_reducible refine c_iList ?_)
  | (with_reducible refine c_iTup ?_)
  | (with_reducible refine c_iStr ?_)
  | (with_reducible refine c_iRng1 ?_)
  | (with_reducible refine c_iS ?_)
  | (with_reducible refine c_yes ?_)
  | (with_reducible refine c_sub ?_)
  | (with_reducible refine c_pair ?_)
  | (with_reducible refine c_pnil ?_)
  | (with_reducible refine c_isn ?_)
  | (with_reducible refine c_notn ?_)
  | (with_reducible refine c_sfld ?_)
  | (with_reducible refine c_fld ?_)
  | (with_reducible refine c_raise ?_)
  | (with_reducible refine c_meth0 ?_)
  | (with_reducible refine c_iEnum ?_)
  | (with_reducible refine c_bm ?_)
  | (with_reducible refine c_bm0 ?_)
  | (with_reducible refine c_mk ?_)
  | (with_reducible refine c_try ?_)
  | (with_reducible refine c_var0 ?_)
  | (with_reducible refine c_asg0 ?_)
  | (with_reducible refine c_nam0 ?_)
  | (with_reducible refine c_var1 ?_)
  | (with_reducible refine c_asg1 ?_)
  | (with_reducible refine c_nam1 ?_)
  | (with_reducible refine c_var2 ?_)
  | (with_reducible refine c_asg2 ?_)
  | (with_reducible refine c_nam2 ?_)
  | (with_reducible refine c_var3 ?_)
  | (with_reducible refine c_asg3 ?_)
  | (with_reducible refine c_nam3 ?_)
  | (with_reducible refine c_var4 ?_)
  | (with_reducible refine c_asg4 ?_)
  | (with_reducible refine c_nam4 ?_)
  | (with_reducible refine c_var5 ?_)
  | (with_reducible refine c_asg5 ?_)
  | (with_reducible refine c_nam5 ?_)
  | (with_reducible refine c_var6 ?_)
  | (with_reducible refine c_asg6 ?_)
  | (with_reducible refine c_nam6 ?_)
  | (with_reducible refine c_var7 ?_)
  | (with_reducible refine c_asg7 ?_)
  | (with_reducible refine c_nam7 ?_)
  | (with_reducible refine c_var8 ?_)
  | (with_reducible refine c_asg8 ?_)
  | (with_reducible refine c_nam8 ?_)
  | (with_reducible refine c_var9 ?_)
  | (with_reducible refine c_asg9 ?_)
  | (with_reducible refine c_nam9 ?_)
  | (with_reducible refine c_var10 ?_)
  | (with_reducible refine c_asg10 ?_)
  | (with_reducible refine c_nam10 ?_)
  | (with_reducible refine c_var11 ?_)
  | (with_reducible refine c_asg11 ?_)
  | (with_reducible refine c_nam11 ?_)
  | (with_reducible refine c_var12 ?_)
  | (with_reducible refine c_asg12 ?_)
  | (with_reducible refine c_nam12 ?_)
  | (with_reducible refine c_var13 ?_)
  | (with_reducible refine c_asg13 ?_)
  | (with_reducible refine c_nam13 ?_)
  | (with_reducible refine c_var14 ?_)
  | (with_reducible refine c_asg14 ?_)
  | (with_reducible refine c_nam14 ?_)
  | (with_reducible refine c_var15 ?_)
  | (with_reducible refine c_asg15 ?_)
  | (with_reducible refine c_nam15 ?_)
  | (with_reducible refine c_asgG ?_)
  | ((with_reducible refine g_ix_l (xs := ?gxa) (v := ?gxb) ?gx1 ?gx2 ?gx3); (case gx1 => walk_at "get"); (case gx2 => rfl))
  | ((with_reducible refine g_len_l (xs := ?gxa) (.inl ?gx1) ?gx3); (case gx1 => walk_at "get"))
  | ((with_reducible refine g_mod_i ?gx1 ?gx3); (case gx1 => omega)))
local macro_rules | `(tactic| walk_at "rs") => `(tactic| repeat walk_at "rs1")
section
variable {P : Program} {w : World} {K : PySem.W.Frag} {mg : Str → Option Value} {base : Heap} {Z : Ads}
def sp__law_words (K : PySem.W.Frag) : Sp := fun vs H Q _ => ∃ (d : Addr) (m : Int), vs = [.ref d, .int m] ∧ Draw H d ∧ 0 ≤ m ∧ m ≤ 23 ∧
  ∀ p (ss : List Str) H', H p = none → Ex H H' → H' p = some (.lst (ss.map V.str)) → (ss.length : Int) = m → ss.Nodup → (∀ z ∈ ss, nameS z = true) → Q (.ref p) H'
def sp__law_name (K : PySem.W.Frag) : Sp := fun vs H Q _ => ∃ x : V, vs = [x] ∧ Thing H x ∧ ∀ H', Ex H H' → Q (.bl (isNm x)) H'
/-- a list of ours, or no list and no tuple -/
def ArgL (K : PySem.W.Frag) (H : Hp) (x : V) (o : Option (List V)) : Prop := Arg K H x o ∧ ∀ xs, o = some xs → ∃ p, x = .ref p ∧ H p = some (.lst xs)
theorem ArgL.ex {K : PySem.W.Frag} {H H' : Hp} {x : V} {o : Option (List V)} (e : Ex H H') (h : ArgL K H x o) : ArgL K H' x o := ⟨h.1.ex e, fun xs hx => by
  obtain ⟨p, h1, h2⟩ := h.2 xs hx
  exact ⟨p, h1, e _ _ h2⟩⟩
theorem lt_a (c : Nat) : decide ([c] < ("a" : Str).cps.toList) = decide (c < 97) := by
  have e : ("a" : Str).cps.toList = [97] := by decide +kernel
  rw [e, decide_eq_decide]
  simp [List.cons_lt_cons_iff]
theorem lt_z (c : Nat) : decide (("z" : Str).cps.toList < [c]) = decide (122 < c) := by
  have e : ("z" : Str).cps.toList = [122] := by decide +kernel
  rw [e, decide_eq_decide]
  simp [List.cons_lt_cons_iff]
theorem all_mapid {α : Type} (f : α → Bool) (l : List α) : (l.map f).all id = l.all f := by
  rw [List.all_map]; rfl
theorem own_names : ∀ z ∈ (["lot", "held", "back", "by", "in", "all", "some", "none", "rule", "told", "rank", "nots", "a", "z", "maybe"] : List Str), nameS z = true := by decide +kernel
theorem taken_cut : ∀ z ∈ taken, nameS (cutS z none (some (-1))) = true := by decide +kernel
theorem scal_nm {x y : V} (h : x = .non ∨ ∃ z, x = .str z ∧ nameS z = true) (h' : y = .non ∨ ∃ z, y = .str z ∧ nameS z = true) : scal x y = true := by
  rcases h with rfl | ⟨z, rfl, _⟩ <;> rcases h' with rfl | ⟨z', rfl, _⟩ <;> rfl
theorem dec_map {xs ys : List Str} : decide (xs.map V.str = ys.map V.str) = decide (xs = ys) := by
  rw [decide_eq_decide]
  exact ⟨fun e => List.map_inj_right (fun _ _ e => V.str.inj e) |>.mp e, fun e => by rw [e]⟩
theorem kit_lt {n : String} (hn : n ∈ kinds) : PySem.W.kitAny K (.type n) [.type "list", .type "tuple"] = some (n == "list" || n == "tuple") := by
  have h1 := kit_kinds (K := K) hn (show "list" ∈ kinds by decide)
  have h2 := kit_kinds (K := K) hn (show "tuple" ∈ kinds by decide)
  have e1 : subK n "list" = (n == "list") := by unfold subK; rw [show ("list" == "int") = false by decide]; simp
  have e2 : subK n "tuple" = (n == "tuple") := by unfold subK; rw [show ("tuple" == "int") = false by decide]; simp
  rw [e1] at h1
  rw [e2] at h2
  exact kitAny_cons h1 (fun e => kitAny_cons h2 (fun e' => by rw [kitAny_nil, e, e']; rfl) (fun e' => by rw [e']; simp)) (fun e => by rw [e]; simp)
theorem g_isi_lt {H : Hp} {Q : VK} {x : V} {o : Option (List V)} {tp : Addr} (hp : H tp = some (.tup [.ty "list", .ty "tuple"])) (hx : Arg K H x o) (q : Q (.bl o.isSome) H) : gIsi K [x, .ref tp] H Q := by
  have go : ∀ {n}, n ∈ kinds → TyX K H x (.type n) → (n == "list" || n == "tuple") = o.isSome → gIsi K [x, .ref tp] H Q := fun {n} hn ht e => by
    refine .inr (.inl ⟨x, tp, _, _, _, _, rfl, hp, .cons (.ty "list") (.cons (.ty "tuple") .nil), ht, kit_lt hn, ?_⟩)
    rw [e]; exact q
  cases o with
  | none =>
    obtain ⟨n, hn, n1, n2, ht⟩ := hx
    exact go hn ht (by simp [n1, n2])
  | some xs =>
    obtain ⟨⟨p, rfl, h | h⟩, -, -⟩ := hx
    · exact go (n := "list") (by decide) (sqL_ty h) (show ("list" == "list" || "list" == "tuple") = true by decide)
    · exact go (n := "tuple") (by decide) (sqT_ty h) (show ("tuple" == "list" || "tuple" == "tuple") = true by decide)
theorem take_snoc {α : Type} {xs : List α} {i : Nat} {y : α} (h : xs[i]? = some y) : xs.take (i + 1) = xs.take i ++ [y] := by
  rw [List.take_add_one, h]; rfl
theorem flat_nms {xs : List V} (h : xs.all isNm = true) : xs.all flatV = true := by
  obtain ⟨ss, rfl, _⟩ := nms_strs h
  exact flat_str ss
theorem inV_nms {xs : List V} (h : xs.all isNm = true) {y : V} (hy : isNm y = true) : inV y xs = decide (y ∈ xs) := by
  obtain ⟨ss, rfl, _⟩ := nms_strs h
  cases y with
  | str z =>
    rw [inV_strs, decide_eq_decide]
    exact ⟨fun k => List.mem_map.mpr ⟨z, k, rfl⟩, fun k => by
      obtain ⟨z', hz', e⟩ := List.mem_map.mp k
      cases e; exact hz'⟩
  | _ => cases hy
theorem nm_flat {y : V} (hy : isNm y = true) : flatV y = true := by
  cases y with
  | str z => rfl
  | _ => cases hy
theorem nodup_snoc {α : Type} {xs : List α} {y : α} (h : xs.Nodup) (hy : y ∉ xs) : (xs ++ [y]).Nodup := by
  rw [List.nodup_append]
  exact ⟨h, by simp, fun a ha b hb e => hy (by rw [List.mem_singleton.mp hb] at e; exact e ▸ ha)⟩
theorem sub_len {α : Type} [DecidableEq α] : ∀ {xs ys : List α}, xs.Nodup → (∀ x ∈ xs, x ∈ ys) → xs.length ≤ ys.length
  | [], _, _, _ => Nat.zero_le _
  | x :: xs, ys, nd, h => by
    have hx := h x (by simp)
    rw [List.nodup_cons] at nd
    have := sub_len (ys := ys.erase x) nd.2 (fun y hy => (List.mem_erase_of_ne (fun e : y = x => nd.1 (by rw [← e]; exact hy))).mpr (h y (List.mem_cons_of_mem _ hy)))
    rw [List.length_erase_of_mem hx] at this
    have := List.length_pos_of_mem hx
    rw [List.length_cons]
    omega
def cand (z : Str) (c : Nat) : Str := cutS z none (some 7) ++ (⟨#[c]⟩ : Str)
theorem cand_tl (z : Str) (c : Nat) : (cand z c).cps.toList = z.cps.toList.take 7 ++ [c] := by
  unfold cand
  rw [show ((cutS z none (some 7) ++ ⟨#[c]⟩ : Str)).cps.toList = (cutS z none (some 7)).cps.toList ++ [c] from TL.tl_append _ _]
  rw [show cutS z none (some 7) = cutS z none (some ((7 : Nat) : Int)) from rfl, cutS_take]
theorem cand_name {z : Str} {c : Nat} (h : nameS z = true) (hc : isLet c = true) (nt : cand z c ∉ taken) : nameS (cand z c) = true := by
  obtain ⟨h1, _, h3⟩ := (nameS_iff z).mp h
  refine (nameS_iff _).mpr ⟨?_, nt, ?_⟩
  · rw [← len_tl, cand_tl, List.length_append, List.length_take, len_tl]
    simp; omega
  · intro c' hc'
    rw [cand_tl] at hc'
    rcases List.mem_append.mp hc' with k | k
    · exact h3 c' (List.mem_of_mem_take k)
    · rw [List.mem_singleton.mp k]; exact hc
theorem abc_nodup : abcS.cps.toList.Nodup := by decide +kernel
theorem cand_ex (z : Str) {L : List Str} (hL : L.length ≤ 25) : ∃ c, c ∈ abcS.cps.toList ∧ cand z c ∉ L := by
  refine Classical.byContradiction fun no => ?_
  have h1 : (abcS.cps.toList.map (cand z)).Nodup := by
    refine List.pairwise_map.mpr (abc_nodup.imp ?_)
    intro a b ne e
    have := congrArg (fun s : Str => s.cps.toList) e
    simp only [cand_tl] at this
    exact ne (by simpa using this)
  have h2 := sub_len (ys := L) h1 (fun x hx => by
    obtain ⟨c, hc, rfl⟩ := List.mem_map.mp hx
    exact Classical.byContradiction fun k => no ⟨c, hc, k⟩)
  rw [List.length_map, show abcS.cps.toList.length = 26 by decide +kernel] at h2
  omega
def thingB : V → Bool
  | .non => true
  | .bl _ => true
  | .int _ => true
  | .str z => decide (z.length ≤ 1000) && PyData.strOk z
  | _ => false
theorem thing_b {H : Hp} {v : V} (h : thingB v = true) : Thing H v := by
  cases v with
  | str z =>
    have h' : (decide (z.length ≤ 1000) && PyData.strOk z) = true := h
    rw [Bool.and_eq_true] at h'
    exact ⟨of_decide_eq_true h'.1, (okS_iff z).mp h'.2⟩
  | non => trivial
  | bl b => trivial
  | int i => trivial
  | _ => cases h
def kindB : V → Bool
  | .non => true
  | .bl _ => true
  | .int _ => true
  | .str _ => true
  | _ => false
theorem arg_b {H : Hp} {v : V} (h : kindB v = true) : ArgL K H v none := by
  refine ⟨?_, fun _ h => by cases h⟩
  cases v with
  | non => exact ⟨"NoneType", by decide, by decide, by decide, .base .non⟩
  | bl b => exact ⟨"bool", by decide, by decide, by decide, .base (.bl b)⟩
  | int i => exact ⟨"int", by decide, by decide, by decide, .base (.int i)⟩
  | str z => exact ⟨"str", by decide, by decide, by decide, .base (.str z)⟩
  | _ => cases h
theorem kind_ref {v : V} (h : kindB v = true) {H : Hp} : ∀ q, v = .ref q → H q = none := by rintro q rfl; cases h
theorem nm_thing {H : Hp} {v : V} (h : isNm v = true) : Thing H v := by
  cases v with
  | str z => exact ⟨Nat.le_trans (nameS_len h) (by omega), nameS_ok h⟩
  | _ => cases h
theorem nms_thing {H : Hp} {ss : List Str} (h : ∀ z ∈ ss, nameS z = true) {v : V} (hv : v ∈ ss.map V.str) : Thing H v := by
  obtain ⟨z, hz, rfl⟩ := List.mem_map.mp hv
  exact nm_thing (h z hz)
theorem argL_of {H : Hp} {p : Addr} {xs : List V} (hp : H p = some (.lst xs)) (hl : xs.length ≤ 1000) (ht : ∀ v ∈ xs, Thing H v) : ArgL K H (.ref p) (some xs) :=
  ⟨⟨⟨p, rfl, .inl (sq_l hp)⟩, hl, ht⟩, fun ys h => by cases h; exact ⟨p, rfl, hp⟩⟩
theorem cutV_len (xs : List V) (lo hi : Option Int) : (cutV xs lo hi).length ≤ xs.length := by
  unfold cutV
  rw [List.length_take, List.length_drop]; omega
theorem fresh_ex {H H1 : Hp} {r : Addr} (e : Ex H H1) (n : H1 r = none) : ∀ q, V.ref r = .ref q → H q = none := by
  intro q hq
  cases hq
  cases h : H r with
  | none => rfl
  | some o => rw [e _ _ h] at n; cases n
theorem fresh_ref {H : Hp} {r : Addr} (n : H r = none) : ∀ q, V.ref r = .ref q → H q = none := by
  intro q hq
  cases hq
  exact n
theorem rep_mem {α : Type} {n : Nat} {xs : List α} {x : α} (h : x ∈ (List.replicate n xs).flatten) : x ∈ xs := by
  obtain ⟨l, hl, hx⟩ := List.mem_flatten.mp h
  rw [List.eq_of_mem_replicate hl] at hx; exact hx
theorem rep_len {α : Type} (n : Nat) (xs : List α) : ((List.replicate n xs).flatten).length = n * xs.length := by simp [List.length_flatten]
theorem x_str : okS ("x" : Str) := by
  refine (okS_iff _).mp ?_
  decide +kernel
theorem repS_ok {z : Str} {k : Nat} (h : okS z) : okS (repS z k) := fun c hc => h c (repS_mem hc)
theorem lay_names {ss : List Str} (h : ∀ z ∈ ss, nameS z = true) : (PyData.tuple ((ss.map V.str).map dV)).canLay0 = true ∧ (PyData.tuple ((ss.map V.str).map dV)).depth = 1 := by
  obtain ⟨h1, h2⟩ := lay_all (ok_names h)
  exact ⟨by simpa [PyData.canLay0] using h1, by show PyData.depthAll ((ss.map V.str).map dV) + 1 = 1; rw [h2]⟩
theorem dp_names {H : Hp} {r : Addr} {xs : List Str} (nx : ∀ z ∈ xs, nameS z = true) (k : SqT K H r (xs.map V.str)) : Dp K H (.ref r) (.tuple ((xs.map V.str).map dV)) := .tup k (dpAll_flat (okAll_flat (ok_names nx)))
theorem g_eq_same {H : Hp} {Q : VK} {x y : V} {d : PyData} (hx : Dp K H x d) (hy : Dp K H y d) (lay : d.canLay0 = true) (dep : d.depth ≤ 64) (h : Q (.bl true) H) : gEq K x y H Q := by
  have sh : SeqAt.shaped d = true := by
    unfold SeqAt.shaped
    rw [lay, decide_eq_true dep]; rfl
  refine g_eq_d hx hy sh sh ?_
  rw [SeqAt.eqv_refl _ lay]
  exact h
/-- a pair of tuples of names beside one like it -/
theorem g_eq_pairs {H : Hp} {Q : VK} {p q a b c d : Addr} {xs ys : List Str} (hp : SqT K H p [.ref a, .ref b]) (hq : SqT K H q [.ref c, .ref d]) (ha : SqT K H a (xs.map V.str)) (hb : SqT K H b (ys.map V.str)) (hc : SqT K H c (xs.map V.str)) (hd : SqT K H d (ys.map V.str))
    (nx : ∀ z ∈ xs, nameS z = true) (ny : ∀ z ∈ ys, nameS z = true) (h : Q (.bl true) H) : gEq K (.ref p) (.ref q) H Q := by
  obtain ⟨lx, px⟩ := lay_names nx
  obtain ⟨ly, py⟩ := lay_names ny
  refine g_eq_same (d := .tuple [.tuple ((xs.map V.str).map dV), .tuple ((ys.map V.str).map dV)]) (.tup hp (.cons (dp_names nx ha) (.cons (dp_names ny hb) .nil))) (.tup hq (.cons (dp_names nx hc) (.cons (dp_names ny hd) .nil))) ?_ ?_ h
  · simp only [PyData.canLay0, PyData.canLayAll0] at lx ly ⊢
    rw [lx, ly]; rfl
  · show max _ (max _ 0) + 1 ≤ 64
    rw [px, py]; decide
theorem ok_nm {h : V} (g : (decide (h = .non) || isNm h) = true) : okV h = true := by
  rcases nm_cases g with rfl | ⟨z, rfl, hz⟩
  · rfl
  · exact (okS_iff z).mpr (nameS_ok hz)
theorem thing_nm {H : Hp} {h : V} (g : (decide (h = .non) || isNm h) = true) : Thing H h := by
  rcases nm_cases g with rfl | ⟨z, rfl, hz⟩
  · trivial
  · exact nm_thing (v := .str z) hz
/-- what two rules tell, beside one another -/
theorem g_eq_told {H : Hp} {Q : VK} {p q a b c d : Addr} {h : V} {xs ys : List Str} (g : (decide (h = .non) || isNm h) = true) (hp : SqT K H p [.str "rule", h, .ref a, .ref b]) (hq : SqT K H q [.str "rule", h, .ref c, .ref d]) (ha : SqT K H a (xs.map V.str)) (hb : SqT K H b (ys.map V.str)) (hc : SqT K H c (xs.map V.str)) (hd : SqT K H d (ys.map V.str))
    (nx : ∀ z ∈ xs, nameS z = true) (ny : ∀ z ∈ ys, nameS z = true) (k : Q (.bl true) H) : gEq K (.ref p) (.ref q) H Q := by
  obtain ⟨lx, px⟩ := lay_names nx
  obtain ⟨ly, py⟩ := lay_names ny
  obtain ⟨lh, ph⟩ := lay_dV (ok_nm g)
  have dh : Dp K H h (dV h) := dp_flat (ok_flat (ok_nm g))
  refine g_eq_same (d := .tuple [.str "rule", dV h, .tuple ((xs.map V.str).map dV), .tuple ((ys.map V.str).map dV)]) (.tup hp (.cons (.str _) (.cons dh (.cons (dp_names nx ha) (.cons (dp_names ny hb) .nil))))) (.tup hq (.cons (.str _) (.cons dh (.cons (dp_names nx hc) (.cons (dp_names ny hd) .nil))))) ?_ ?_ k
  · simp only [PyData.canLay0, PyData.canLayAll0] at lx ly ⊢
    rw [lx, ly, lh, show PyData.strOk ("rule" : Str) = true by decide +kernel]; rfl
  · show max 0 (max _ (max _ (max _ 0))) + 1 ≤ 64
    rw [px, py, ph]; decide
theorem kit_tt : PySem.W.kitOne K (.type "tuple") (.type "tuple") = some true := by
  have := kit_kinds (K := K) (n := "tuple") (m := "tuple") (by decide) (by decide)
  rw [this]; unfold subK; simp
section
variable {σ : L2.St} {H : Hp} {Q : VK} {D : Ends}
/-- a statement, and what holds behind it -/
theorem c_seqJ {t u : TS} (P : L2.St → Hp → Prop) (h1 : ∀ N : L2.St → Hp → Prop, (∀ σ' H', P σ' H' → N σ' H') → t { D with nx := N } σ H) (h2 : ∀ σ' H', P σ' H' → u D σ' H') : tSeq t u D σ H := h1 _ h2
theorem c_valJ {t : TE} (P : V → Hp → Prop) (h1 : ∀ N : VK, (∀ v H', P v H' → N v H') → t σ H N) (h2 : ∀ v H', P v H' → Q v H') : t σ H Q := h1 _ h2
theorem c_par {i j : Nat} {ta : TA} (h : ta σ H fun vs H1 => ∃ v w, vs = [v, w] ∧ D.nx ((σ.set i (some v)).set j (some w)) H1) : tPar i j ta D σ H := h
theorem c_tru {ta : TE} {QB : Bool → Hp → Prop} (h : ta σ H fun x H' => ∃ k, TruV K x H' k ∧ QB k H') : tTru K ta σ H QB := h
theorem g_trub {b : Bool} {QB : Bool → Hp → Prop} (h : QB b H) : ∃ k, TruV K (.bl b) H k ∧ QB k H := ⟨b, rfl, h⟩
theorem g_oeq_i {r : R2} {i j : Int} (h : Q (.bl (decide (i = j))) H) : rOr (gEq K) r (.int i) (.int j) H Q := .inl (g_eq_i h)
end
/-- what is no list of ours stays -/
def isLs : HO → Bool
  | .lst _ => true
  | _ => false
def Exl (H H' : Hp) : Prop := ∀ a o, H a = some o → isLs o = false → H' a = some o
theorem Exl.of {H H' : Hp} {p : Addr} {xs : List V} (hp : H p = some (.lst xs)) (e : Exb p H H') : Exl H H' := fun a o ha ho => e a o (by
  rintro rfl
  rw [hp] at ha
  cases ha
  cases ho) ha
theorem Exl.ofEx {H H' : Hp} (e : Ex H H') : Exl H H' := fun a o ha _ => e a o ha
theorem Exl.trans {H H1 H2 : Hp} (e : Exl H H1) (e' : Exl H1 H2) : Exl H H2 := fun a o ha ho => e' a o (e a o ha ho) ho
theorem Exl.refl {H : Hp} : Exl H H := fun _ _ h _ => h
theorem exl_t {H H' : Hp} {p : Addr} {xs : List V} (e : Exl H H') (h : SqT K H p xs) : SqT K H' p xs := by
  rcases h with (h | ⟨o, h⟩) | h
  · exact .inl (.inl (e _ _ h rfl))
  · exact .inl (.inr ⟨o, e _ _ h rfl⟩)
  · exact .inr h
theorem exl_ty {H H' : Hp} {x : V} {n : String} (e : Exl H H') (hn : n ≠ "list") (h : TyX K H x (.type n)) : TyX K H' x (.type n) := by
  cases h with
  | base h =>
    cases h with
    | non => exact .base .non
    | bl b => exact .base (.bl b)
    | int i => exact .base (.int i)
    | str z => exact .base (.str z)
    | flt z => exact .base (.flt z)
    | lst q => exact absurd rfl hn
    | frz q => exact .base (.frz (e _ _ q rfl))
    | tup q => exact .base (.tup (e _ _ q rfl))
    | dK q => exact .base (.dK (e _ _ q rfl))
    | dT q => exact .base (.dT (e _ _ q rfl))
  | byt b => exact .byt b
  | set q => exact .set (e _ _ q rfl)
  | kList q c => exact .kList q c
  | kTuple q c => exact .kTuple q c
  | kDict q c => exact .kDict q c
  | fTuple q => exact .fTuple (e _ _ q rfl)
  | fDict q => exact .fDict (e _ _ q rfl)
theorem exl_rule {H H' : Hp} {a : Addr} {h : V} {bd us : List V} (e : Exl H H') (r : IsRule K Z H a h bd us) : IsRule K Z H' a h bd us := by
  obtain ⟨dx, pb, pu, h1, h2, h3, r⟩ := r
  exact ⟨dx, pb, pu, e _ _ h1 rfl, exl_t e h2, exl_t e h3, r⟩
/-- isinstance(x, list), x of a kind -/
theorem kit_nl {n : String} (hn : n ∈ kinds) (h : n ≠ "list") : PySem.W.kitOne K (.type n) (.type "list") = some false := by
  rw [kit_kinds hn (by decide)]
  unfold subK
  rw [show (n == "list") = false by simpa using h, show (("list" : String) == "int") = false by decide]; simp
theorem g_isi_nl {H : Hp} {Q : VK} {x : V} {n : String} (hn : n ∈ kinds) (h : n ≠ "list") (ht : TyX K H x (.type n)) (q : Q (.bl false) H) : gIsi K [x, .ty "list"] H Q := g_isi (.ty "list") ht (kit_nl hn h) q
theorem g_isi_l {H : Hp} {Q : VK} {p : Addr} {xs : List V} (hp : SqL K H p xs) (q : Q (.bl true) H) : gIsi K [.ref p, .ty "list"] H Q := by
  refine g_isi (.ty "list") (sqL_ty hp) ?_ q
  rw [kit_kinds (by decide) (by decide)]
  unfold subK; simp
theorem g_isi_al {H : Hp} {Q : VK} {x : V} {o : Option (List V)} (h : ArgL K H x o) (q : Q (.bl o.isSome) H) : gIsi K [x, .ty "list"] H Q := by
  cases o with
  | none =>
    obtain ⟨⟨n, hn, h1, _, ht⟩, _⟩ := h
    exact g_isi_nl hn h1 ht q
  | some xs =>
    obtain ⟨p, rfl, hp⟩ := h.2 xs rfl
    exact g_isi_l (sq_l hp) q
/-- a part as it is handed on: itself, or a tuple of it -/
def WPart (K : PySem.W.Frag) (H : Hp) (w y : V) (o : Option (List V)) : Prop := w = y ∨ ∃ q xs, w = .ref q ∧ o = some xs ∧ SqT K H q xs
theorem WPart.exl {H H' : Hp} {w y : V} {o : Option (List V)} (e : Exl H H') (h : WPart K H w y o) : WPart K H' w y o := h.imp id fun ⟨q, xs, h1, h2, h3⟩ => ⟨q, xs, h1, h2, exl_t e h3⟩
theorem WPart.arg {H : Hp} {w y : V} {o : Option (List V)} (h : WPart K H w y o) (hy : Arg K H y o) : Arg K H w o := by
  rcases h with rfl | ⟨q, xs, rfl, rfl, hq⟩
  · exact hy
  · exact ⟨⟨q, rfl, .inr hq⟩, hy.2⟩
/-- a part as it is changed behind -/
def MPart (K : PySem.W.Frag) (hp : Addr) (H0 H : Hp) (i : Nat) (w : V) : Prop := (∃ n, n ∈ kinds ∧ n ≠ "list" ∧ TyX K H w (.type n)) ∨ ∃ q xs, w = .ref q ∧ H q = some (.lst xs) ∧ xs.length ≤ 1000 + i ∧ q ≠ hp ∧ H0 q = none
theorem WPart.m {H H0 : Hp} {hp : Addr} {w y : V} {o : Option (List V)} (h : WPart K H w y o) (hy : ArgL K H y o) (f : ∀ q, y = .ref q → H0 q = none) (ne : ∀ q xs, y = .ref q → H q = some (.lst xs) → q ≠ hp) : MPart K hp H0 H 0 w := by
  rcases h with rfl | ⟨q, xs, rfl, rfl, hq⟩
  · cases o with
    | none =>
      obtain ⟨⟨n, hn, h1, _, ht⟩, _⟩ := hy
      exact .inl ⟨n, hn, h1, ht⟩
    | some xs =>
      obtain ⟨p, rfl, hp⟩ := hy.2 xs rfl
      exact .inr ⟨p, xs, rfl, hp, by have := hy.1.2.1; omega, ne p xs rfl hp, f p rfl⟩
  · exact .inl ⟨"tuple", by decide, by decide, sqT_ty hq⟩
/-- one part is changed: of the others nothing is worse -/
theorem MPart.step {H0 H H' : Hp} {hp q : Addr} {i : Nat} {xs xs' : List V} {w : V} (h : MPart K hp H0 H i w) (e : Exb q H H') (hq : H q = some (.lst xs)) (hq' : H' q = some (.lst xs')) (l : xs'.length ≤ 1000 + (i + 1)) : MPart K hp H0 H' (i + 1) w := by
  rcases h with ⟨n, hn, h1, ht⟩ | ⟨q2, ys, rfl, h2, h3, h4, h5⟩
  · exact .inl ⟨n, hn, h1, exl_ty (Exl.of hq e) h1 ht⟩
  · by_cases hh : q2 = q
    · subst hh
      exact .inr ⟨q2, xs', rfl, hq', l, h4, h5⟩
    · exact .inr ⟨q2, ys, rfl, e _ _ hh h2, by omega, h4, h5⟩
theorem MPart.up {H0 H : Hp} {hp : Addr} {i : Nat} {w : V} (h : MPart K hp H0 H i w) : MPart K hp H0 H (i + 1) w := h.imp id fun ⟨q, xs, h1, h2, h3, h⟩ => ⟨q, xs, h1, h2, by omega, h⟩
/-- == of a rule with itself made again, and with what differs -/
theorem g_own_r {H : Hp} {Q : VK} {a b : Addr} {h h' : V} {bd us bd' us' : List V} (R : RuleC K Z.Rule) (r : IsRule K Z H a h bd us) (r' : IsRule K Z H b h' bd' us') (q : ∀ H', Ex H H' → Q (.bl (decide (h = h') && (decide (bd = bd') && decide (us = us')))) H') : rOr (gEq K) (rOwnEq K Z.Rule (sp_Rule___eq__ K Z) E0) (.ref a) (.ref b) H Q := by
  obtain ⟨dx', pb', pu', hb, _⟩ := id r'
  obtain ⟨dx, pb, pu, ha, _⟩ := id r
  exact .inr ⟨a, dx, _, _, rfl, ha, rule_ty R hb, R.first1, a, h, _, bd, us, rfl, r, .inr ⟨b, h', bd', us', rfl, r', fun H' e => ⟨⟨_, rfl⟩, q H' e⟩⟩⟩
theorem g_own_n {H : Hp} {Q : VK} {a : Addr} {h y : V} {bd us : List V} {n : String} (R : RuleC K Z.Rule) (r : IsRule K Z H a h bd us) (hn : n ∈ kinds) (ht : TyX K H y (.type n)) (q : ∀ H', Ex H H' → Q (.bl false) H') : rOr (gEq K) (rOwnEq K Z.Rule (sp_Rule___eq__ K Z) E0) (.ref a) y H Q := by
  obtain ⟨dx, pb, pu, ha, _⟩ := id r
  exact .inr ⟨a, dx, _, _, rfl, ha, ht, R.first n hn, a, h, _, bd, us, rfl, r, .inl ⟨n, hn, ht, fun H' e => ⟨⟨_, rfl⟩, q H' e⟩⟩⟩
/-- a thing that no rule of ours equals -/
def EqF (K : PySem.W.Frag) (Z : Ads) (H : Hp) (h : V) (bd us : List V) (x : V) : Prop := (∃ n, n ∈ kinds ∧ n ≠ "list" ∧ TyX K H x (.type n)) ∨ ∃ b h' bd' us', x = .ref b ∧ IsRule K Z H b h' bd' us' ∧ (decide (h = h') && (decide (bd = bd') && decide (us = us'))) = false
theorem EqF.exl {H H' : Hp} {h x : V} {bd us : List V} (e : Exl H H') (k : EqF K Z H h bd us x) : EqF K Z H' h bd us x := by
  rcases k with ⟨n, hn, h1, ht⟩ | ⟨b, h', bd', us', rfl, r, k⟩
  · exact .inl ⟨n, hn, h1, exl_ty e h1 ht⟩
  · exact .inr ⟨b, h', bd', us', rfl, exl_rule e r, k⟩
/-- a tuple of names beside the empty one; all behind its first -/
theorem g_ne_te {H : Hp} {Q : VK} {p q : Addr} {xs : List Str} (hp : SqT K H p (xs.map V.str)) (hq : SqT K H q []) (nx : ∀ z ∈ xs, nameS z = true) (h : Q (.bl (!decide (xs = []))) H) : gNe K (.ref p) (.ref q) H Q := by
  refine g_ne_d (dp_names nx hp) (.tup hq .nil) (shaped_t (ok_names nx)) (shaped_t (xs := []) rfl) ?_
  cases xs with
  | nil => exact h
  | cons x xs => exact h
theorem g_sl_t1 {H : Hp} {Q : VK} {p : Addr} {xs : List V} (hp : SqT K H p xs) (h : ∀ r H', Ex H H' → SqT K H' r (xs.drop 1) → Q (.ref r) H') : gSl K (.ref p) (some 1) none H Q := by
  refine .inr (.inl ⟨p, xs, rfl, hp, fun ⟨h1, _⟩ => ?_, fun _ r hr => ?_⟩)
  · have e : HT.sIx xs.length 0 (some ((1 : Nat) : Int)) = min 1 xs.length := HT.sIx_nat ..
    rw [show (some (1 : Int)) = some ((1 : Nat) : Int) from rfl, e] at h1
    have hx : xs = [] := List.eq_nil_of_length_eq_zero (by omega)
    refine h p H (Ex.refl _) ?_
    rw [hx] at hp ⊢
    exact hp
  · rw [show (some (1 : Int)) = some ((1 : Nat) : Int) from rfl, cut_drop]
    exact h r _ (Ex.new hr) (.inl (.inl upd_same))
theorem cut_names {ss : List Str} {lo hi : Option Int} (h : ∀ z ∈ ss, nameS z = true) : ∃ ts : List Str, cutV (ss.map V.str) lo hi = ts.map V.str ∧ (∀ z ∈ ts, nameS z = true) ∧ ts.length ≤ ss.length := by
  have ha : (cutV (ss.map V.str) lo hi).all isNm = true := by
    rw [List.all_eq_true]
    intro v hv
    obtain ⟨z, hz, rfl⟩ := List.mem_map.mp (cutV_mem hv)
    exact h z hz
  obtain ⟨ts, e, hn⟩ := nms_strs ha
  refine ⟨ts, e, hn, ?_⟩
  have := cutV_len (ss.map V.str) lo hi
  rw [e, List.length_map, List.length_map] at this
  exact this
theorem nms_tail {ss : List Str} {m : Nat} (h : nmsO (some (ss.map V.str)) m = true) : nmsO (some ((ss.map V.str).drop 1)) m = true := by
  rw [nmsO_some, Bool.and_eq_true, Bool.and_eq_true, decide_eq_true_iff, decide_eq_true_iff, List.all_eq_true] at h ⊢
  obtain ⟨h1, h2, h3⟩ := h
  refine ⟨by rw [List.length_drop]; omega, fun x hx => h2 x (List.mem_of_mem_drop hx), h3.sublist (List.drop_sublist _ _)⟩
theorem arg_t {H : Hp} {p : Addr} {xs : List V} {m : Nat} (hp : SqT K H p xs) (h : nmsO (some xs) m = true) (hm : m ≤ 1000) : Arg K H (.ref p) (some xs) := by
  obtain ⟨ss, rfl, hn, _, hl⟩ := nms_of h
  exact ⟨⟨p, rfl, .inr hp⟩, by rw [List.length_map]; omega, fun v hv => nms_thing hn hv⟩

def N7 : List (Option V) := [none, none, none, none, none, none, none]
theorem fresh_up {H H1 : Hp} {y : V} (e : Ex H H1) (n : ∀ q, y = .ref q → H1 q = none) : ∀ q, y = .ref q → H q = none := fun q hq => by
  cases h : H q with
  | none => rfl
  | some o => have := n q hq; rw [e _ _ h] at this; cases this
theorem good_and {h : V} {b u : Option (List V)} (g : goodR h b u = true) : (decide (h = .non) || isNm h) = true ∧ nmsO b 6 = true ∧ nmsO u 4 = true := by
  unfold goodR at g
  rw [Bool.and_eq_true, Bool.and_eq_true] at g
  exact g
theorem good_of {h : V} {b u : Option (List V)} (g1 : (decide (h = .non) || isNm h) = true) (g2 : nmsO b 6 = true) (g3 : nmsO u 4 = true) : goodR h b u = true := by
  unfold goodR; rw [g1, g2, g3]; rfl
theorem mk_t {Q : VK} {E : XK} {H : Hp} {h : V} {pb pu : Addr} {bd us : List V} (g1 : (decide (h = .non) || isNm h) = true) (g2 : nmsO (some bd) 6 = true) (g3 : nmsO (some us) 4 = true) (hb : SqT K H pb bd) (hu : SqT K H pu us) {gV : List V → List V → List V} (k : ∀ b H', H b = none → Ex H H' → IsRule K Z H' b h bd us → Q (.ref b) H') (hg : ∀ a, gV [.ref a, h, .ref pb] [.ref pu] = [.ref a, h, .ref pb, .ref pu] := by intro _; rfl) :
    MKP Z.Rule 2 1 (sp_Rule___init__ K Z) gV E Q [h, .ref pb] [.ref pu] H :=
  mk_rule (thing_nm g1) (arg_t hb g2 (by omega)) (arg_t hu g3 (by omega)) (fun _ a H' na e r => k a H' na e r) (fun g' => by rw [good_of g1 g2 g3] at g'; cases g') rfl rfl hg
theorem Exb.trans {H H1 H2 : Hp} {p : Addr} (e : Exb p H H1) (e' : Exb p H1 H2) : Exb p H H2 := fun a o ne h => e' a o ne (e a o ne h)
theorem short_tup {ss : List Str} {m : Nat} {pt : Addr} {σ : L2.St} {H : Hp} {N : VK} {te : TE} (g : nmsO (some (ss.map V.str)) m = true) (hm : 1 ≤ m) (hp : SqT K H pt (ss.map V.str)) (hte : ∀ (H' : Hp) (Q' : VK), Ex H H' → Q' (.ref pt) H' → te σ H' Q')
    (k : ∀ t ts H'', SqT K H'' t ts → nmsO (some ts) m = true → ss.map V.str ≠ ts → Ex H H'' → N (.ref t) H'') : tIf (tTest (tOp (gNe K) te (tTup tNil))) (tSl (gSl K) te (tPart (tC (.int 1))) tNoPart) (tTup (tCons (tC (.str "a")) tNil)) σ H N := by
  have nx : ∀ z ∈ ss, nameS z = true := fun z hz => by
    rw [nmsO_some, Bool.and_eq_true, Bool.and_eq_true, List.all_eq_true] at g
    exact g.2.1 _ (List.mem_map.mpr ⟨z, hz, rfl⟩)
  with_reducible refine c_if ?_
  with_reducible refine c_test ?_
  with_reducible refine c_op ?_
  refine hte H _ (Ex.refl _) ?_
  walk_at "rs"
  refine c_tupE (by simp) (fun p1 H1 n1 e1 h1 => ?_)
  refine g_ne_te (ex_t e1 hp) (sq_t h1) nx ?_
  walk_at "rs"
  refine c_nd (fun ne => ?_) (fun eq => ?_)
  · with_reducible refine c_sl ?_
    refine hte H1 _ e1 ?_
    walk_at "rs"
    refine g_sl_t1 (ex_t e1 hp) (fun r H2 e2 h2 => k r _ H2 h2 (nms_tail g) (fun e => ne ?_) (e1.trans e2))
    have := congrArg List.length e
    rw [List.length_drop, List.length_map] at this
    exact List.eq_nil_of_length_eq_zero (by omega)
  · walk_at "rs"
    refine c_tupE (by simp) (fun t H2 n2 e2 h2 => ?_)
    refine k t _ H2 (sq_t h2) ?_ (by rw [eq]; simp) (e1.trans e2)
    rw [nmsO_some, decide_eq_true (show [V.str "a"].length ≤ m from hm)]
    decide +kernel
theorem g_ne_same {H : Hp} {Q : VK} {x y : V} {d : PyData} (hx : Dp K H x d) (hy : Dp K H y d) (lay : d.canLay0 = true) (dep : d.depth ≤ 64) (h : Q (.bl false) H) : gNe K x y H Q := by
  have sh : SeqAt.shaped d = true := by
    unfold SeqAt.shaped
    rw [lay, decide_eq_true dep]; rfl
  refine g_ne_d hx hy sh sh ?_
  rw [SeqAt.eqv_refl _ lay]
  exact h
theorem c_lawname {H : Hp} {Q : VK} {E : XK} {x : V} (hx : Thing H x) (h : ∀ H', Ex H H' → Q (.bl (isNm x)) H') : sp__law_name K ([x] ++ []) H Q E := ⟨x, rfl, hx, h⟩
end
end Gx

/-! enumerate(a tuple) -/
namespace Gx
open PySem PySem.Spec PyProof.Rows L2 Evl
open Sem (wp)
theorem new_enumT (a : Addr) (items : Array Value) :
    Meets (Builtin.«enumerate.__new__» ⟨[.type "enumerate", .ref a], []⟩) (fun _ R s => s.heap.IsTuple a items ∧
      R (.ok (.ret (.ref (s.heap.push { cls := .type "tuple_iterator", data := .fields #[.ref a, .int 0 0] }).objs.size)))
        { s with heap := (s.heap.push { cls := .type "tuple_iterator", data := .fields #[.ref a, .int 0 0] }).push { cls := .type "enumerate", data := .fields #[.none, .bool false, .ref s.heap.objs.size, rawInt 0, .none, .none] } }) :=
  .of_wp fun prog w A R s h => by
    obtain ⟨hp, g, d, tk, os⟩ := s
    obtain ⟨ht, hR⟩ := h
    have sub := sub_enumerate
    have it : ∀ {A' : Around} {E : Value → Shared → Prop} {Q : Value → Shared → Prop}, Q (.ref hp.objs.size) ⟨hp.push { cls := .type "tuple_iterator", data := .fields #[.ref a, .int 0 0] }, g, d, tk, os⟩ → wpAny (model prog w) A' (pyIter (.ref a)) Q E ⟨hp, g, d, tk, os⟩ :=
      fun q => (begins_tuple a items).iter prog w _ _ ⟨hp, g, d, tk, os⟩ _ ht q
    wp_walk using it
    refine wpAny_stack_any fun st => wpAny_pure ?_
    split
    · rename_i c _ _ _ _ _
      cases (c == Value.type "enumerate")
      · wp_walk using it
        exact ⟨_, rfl, hR⟩
      · wp_walk using it
        exact ⟨_, rfl, hR⟩
    · wp_walk using it
      exact ⟨_, rfl, hR⟩

section
variable {prog : Program} {w : World} {A : Around} {E : Value → Shared → Prop} {s : Shared}
theorem call_enumT {a : Addr} {items : Array Value} {Q : Value → Shared → Prop} (ht : s.heap.IsTuple a items)
    (h : ∀ h', IsEnum h' (s.heap.objs.size + 1) s.heap.objs.size 0 .none → h'.IsTupleIter s.heap.objs.size a 0 → (∀ b o, s.heap.get? b = some o → h'.get? b = some o) → Q (.ref (s.heap.objs.size + 1)) { s with heap := h' }) :
    wpAny (model prog w) A (call (.type "enumerate") [.ref a]) Q E s := by
  refine callType_new F.called_enumerate (by decide) (F.typeCall_enumerate_1 _) (F.newCall_enumerate_1 _) (fun obj => F.args_object_init_2 obj _) F.entry_enumerate_new (new_enumT a items) ⟨ht, ?_⟩
  have size1 : (s.heap.push { cls := .type "tuple_iterator", data := .fields #[.ref a, .int 0 0] }).objs.size = s.heap.objs.size + 1 := Heap.size_push ..
  have last := Heap.get?_push_size (s.heap.push { cls := .type "tuple_iterator", data := .fields #[.ref a, .int 0 0] }) (o := { cls := .type "enumerate", data := .fields #[.none, .bool false, .ref s.heap.objs.size, rawInt 0, .none, .none] }) rfl
  rw [size1] at last
  show _ ∧ _
  rw [size1]
  exact ⟨⟨_, last, rfl⟩, h _ last ⟨_, Heap.get?_push_of_some _ (Heap.get?_push_size _ rfl), rfl, rfl⟩ fun b o x => Heap.get?_push_of_some _ (Heap.get?_push_of_some _ x)⟩
end
section
variable {prog : Program} {w : World} {A : Around} {E : Value → Shared → Prop} {s : Shared}
theorem next_enumT_end {e it a : Addr} {i : Nat} {items : Array Value} {old : Value} {Q : Option Value → Shared → Prop} (hh : A.handled = none) (he : IsEnum s.heap e it i old) (hit : s.heap.IsTupleIter it a i) (ht : s.heap.IsTuple a items) (hx : items[i]? = none)
    (hQ : ∀ h', Heap.ExtBut it s.heap h' → Q none { s with heap := h' }) : wpAny (model prog w) A (pyNext (.ref e)) Q E s := by
  have ty : s.TypeIs (.ref e) "enumerate" := ⟨_, he, rfl⟩
  unfold pyNext
  refine wpAny_bind (wpAny_attempt (wpAny_callSpecial?_slot (name := Str.ofString "__next__") ty F.slot_enumerate_next (wpAny_call_entry F.slot_enumerate_next ty F.entry_enumerate_next ?_ (F.args_enumerate_next_1 _))))
  show wpAny _ _ (field (.ref e) 2 >>= _) _ _ _
  refine wpAny_bind (wpAny_field he rfl (x := .ref it) rfl (wpAny_bind (wpAny_nextOf_tuple_end hh hit ht hx fun h' x eb ⟨o, ho, hc⟩ => ?_)))
  exact wpAny_bind (wpAny_isInstance (T := "StopIteration") (b := true) ⟨o, ho, hc⟩ isSubtype_stop (wpAny_pure (hQ _ eb)))
end
/-- the tuple at a, each item in a new pair with its place -/
def Itet (K : PySem.W.Frag) (a : Addr) : It :=
  ⟨fun i H => ∃ (xs : List V) (x : V), SqT K H a xs ∧ xs[i]? = some x, fun i H v H' => ∃ T x, v = .ref T ∧ H T = none ∧ H' = upd H T (.tup [.int (i : Nat), x]) ∧ ∀ xs, SqT K H a xs → xs[i]? = some x, fun i H => ∃ xs : List V, SqT K H a xs ∧ xs.length ≤ i⟩
theorem turn_enumT {P : Program} {w : World} {K : PySem.W.Frag} {elts : List Expr} {kk : Nat} {tpos : Pos} (a e it : Addr) :
    Turn P w K (.Tuple elts kk tpos) (Itet K a) [e, it] e (fun i h => (∃ old, IsEnum h e it ((i : Nat) : Int) old) ∧ h.IsTupleIter it a i ∧ e ≠ it ∧ e ≠ a ∧ a ≠ it) where
  mem := by simp
  obj := fun i h st b hb => by
    obtain ⟨⟨old, he⟩, ⟨o, ho, hc, hd⟩, _⟩ := st
    rcases (show b = e ∨ b = it by simpa using hb) with z | z
    · rw [z]; exact ⟨_, he, fun v q => nomatch q⟩
    · rw [z]; exact ⟨o, ho, fun v q => by rw [hd] at q; cases q⟩
  keep := fun i h h' st k => let ⟨⟨old, he⟩, hi, hne⟩ := st; ⟨⟨old, k e (by simp) _ he⟩, hi.at fun o q => k it (by simp) o q, hne⟩
  item := by
    intro X hP hw hK hc i pins s σ H E I hf st hg
    subst hP hw hK
    obtain ⟨⟨old, he⟩, hit, hne, hea, hai⟩ := st
    obtain ⟨xs, x, hq, hx⟩ := hg
    obtain ⟨its, rv, p, hz⟩ := I.tuple hq
    obtain ⟨u, hu, ru⟩ := rv.get hx
    have hel : e < s.heap.objs.size := Heap.lt_size he
    have hil : it < s.heap.objs.size := by obtain ⟨_, q, _⟩ := hit; exact Heap.lt_size q
    have low : ∀ b, b ∈ [e, it] → b < s.heap.objs.size := fun b hb => by
      rcases (show b = e ∨ b = it by simpa using hb) with z | z
      · rw [z]; exact hel
      · rw [z]; exact hil
    have n := rv.get hx
    have hlt : i < its.toArray.size := by
      have := rv.length
      have h1 : i < xs.length := by
        rcases Nat.lt_or_ge i xs.length with k | k
        · exact k
        · rw [List.getElem?_eq_none k] at hx; cases hx
      simp; omega
    refine wpAny_pyNext_enum_itemD (Draws.tuple (A := X.A.in1) (show X.A.in1.handled = none from I.ok.hd hc) it a hai its.toArray) he ⟨hit, p⟩ hlt hne (by simp [hne, hea]) fun x' h' tk hP ho hst hT hsz hk => ?_
    have ex : x' = u := by
      have q1 : its.toArray[i]? = some x' := hP
      have q2 : its.toArray[i]? = some u := by simpa using hu
      rw [q2] at q1; cases q1; rfl
    subst ex
    refine ⟨_, rfl, wpAny_letOwnedTupleGo_enum (s := { s with heap := h', toks := tk + 1 }) ho fun h'' he' sb => ?_⟩
    have hT2 : h''.get? s.heap.objs.size = some { cls := .type "tuple", data := .seq #[.int i tk, x'] } := (sb.2 _ (Nat.ne_of_gt hel)).trans hT
    have new : ObjOk X.prog X.w (upd H s.heap.objs.size (.tup [.int (i : Nat), x])) h'' s.heap.objs.size (.tup [.int (i : Nat), x]) :=
      ⟨by show 2 ≤ sizeLine; decide, [.int i tk, x'], .cons ⟨_, rfl⟩ (.cons ru .nil), ⟨_, hT2, rfl, _, rfl⟩⟩
    have I1 : Inv X pins σ (upd H s.heap.objs.size (.tup [.int (i : Nat), x])) { s with heap := h'', toks := tk + 1 } :=
      I.turnedNew (ch := [e, it]) (fun b ob hb q => (sb.2 b (fun z => hb (by simp [z]))).trans (hk b ob (fun z => hb (by simp [z])) (fun z => hb (by simp [z])) q)) hf (Nat.le_refl _) new
    refine ⟨.ref s.heap.objs.size, _, I1, rfl, ⟨_, x, rfl, I.hok.fresh (Nat.le_refl _), rfl, fun ys hy => by rw [I.tuple_inj hy hq]; exact hx⟩, ⟨⟨x', ?_⟩, hst.1.at fun o q => (sb.2 it (Ne.symm hne)).trans q, hne, hea, hai⟩, fun b hb => ?_⟩
    · rw [show ((i + 1 : Nat) : Int) = (i : Int) + 1 by omega]; exact he'
    · rw [upd_ne (Nat.ne_of_lt (low b hb))]
      exact (hf b hb).1
  done := by
    intro X hP hw hK hc i pins s σ H E I hf st hg
    subst hP hw hK
    obtain ⟨⟨old, he⟩, hit, hne, hea, hai⟩ := st
    obtain ⟨xs, hq, hx⟩ := hg
    obtain ⟨its, rv, p, hz⟩ := I.tuple hq
    obtain ⟨f0, f1, f2, f3, f4, f5⟩ := hf it (by simp)
    have hl := rv.length
    exact next_enumT_end (I.ok.hd hc) he hit p (by simp; omega) fun h' eb => ⟨rfl, I.turned (t' := s.toks) (fun b o hb q => eb b o hb q) f0 f1 f3 f4 f5⟩
  self := fun A i s Q E st h => let ⟨⟨_, he⟩, _⟩ := st; wpAny_pyIter_enum he h
def iEnumT (K : PySem.W.Frag) (ta : TA) : TI := fun σ H R => ta σ H fun vs H1 => ∃ a xs, vs = [.ref a] ∧ SqT K H1 a xs ∧ R (Itet K a) H1
theorem pi_enumT {X : Cx} {e : Expr} {ta : TA} {p pos tpos : Pos} {elts : List Expr} {kk : Nat} (hg : Gl X "enumerate") (hm : X.mg "enumerate" = none) (ha : PA X [e] ta) (hs : starEach [e] X.env = [(false, eval e X.env)] := by rfl) :
    PI X (.Tuple elts kk tpos) (.Call (.Name "enumerate" p) [e] [] pos) (iEnumT X.K ta) := by
  constructor
  intro pins s σ H R I h
  refine Call_ (ld_blt I hg hm boot_enumerate (PyProof.Rows.callWith_type1 (thn (ha.run pos pins s σ H _ I h) fun us s1 hv => ?_) hs rfl))
  obtain ⟨vs, H1, I1, r1, a, xs, rfl, hq, q⟩ := hv
  obtain ⟨u, rfl, ru⟩ : ∃ u, us = [u] ∧ RelV (V.ref a) u := by
    cases r1 with
    | cons r rr => cases rr; exact ⟨_, rfl, r⟩
  cases ru
  obtain ⟨its, rv, pt, hz⟩ := I1.tuple hq
  have lt : a < s1.heap.objs.size := by obtain ⟨o, ho, _⟩ := pt; exact Heap.lt_size ho
  refine call_enumT pt fun h' he hit hk => wpAny_pyIter_enum he ?_
  have I2 : Inv X pins σ H1 { s1 with heap := h' } := I1.kept (t' := s1.toks) hk
  refine ⟨s1.heap.objs.size + 1, [s1.heap.objs.size + 1, s1.heap.objs.size], _, _, H1, rfl, I2, turn_enumT a (s1.heap.objs.size + 1) s1.heap.objs.size, ⟨⟨.none, he⟩, hit, Nat.succ_ne_self _, Ne.symm (Nat.ne_of_lt (Nat.lt_succ_of_lt lt)), Nat.ne_of_lt lt⟩, fun b hb => ?_, q⟩
  have hle : s1.heap.objs.size ≤ b := by
    rcases (show b = s1.heap.objs.size + 1 ∨ b = s1.heap.objs.size by simpa using hb) with z | z
    · rw [z]; exact Nat.le_succ _
    · rw [z]; exact Nat.le_refl _
  exact I1.fpOk hle (I1.hok.fresh hle)
theorem walk_enumT {K : PySem.W.Frag} {a : Addr} {xs : List V} : Walk (Itet K a) xs.length (fun H => SqT K H a xs) (YPair (fun i => some (.int (i : Nat))) (fun i => xs[i]?)) := by
  refine ⟨fun i _ hi q => ⟨xs, xs[i], q, by simp [hi]⟩, fun _ q => ⟨xs, q, Nat.le_refl _⟩, fun i H v H' _ q y => ?_⟩
  obtain ⟨T, x, h1, h2, h3, h4⟩ := y
  exact ⟨T, .int (i : Nat), x, h1, h2, h3, rfl, h4 xs q⟩
theorem c_iEnumT {K : PySem.W.Frag} {σ : L2.St} {H : Hp} {ta : TA} {R : It → Hp → Prop} (h : ta σ H fun vs H1 => ∃ a xs, vs = [.ref a] ∧ SqT K H1 a xs ∧ R (Itet K a) H1) : iEnumT K ta σ H R := h
theorem c_iET {K : PySem.W.Frag} {H : Hp} {p : Addr} {xs : List V} {R : Addr → Prop} (hp : SqT K H p xs) (h : R p) : ∃ a ys, [V.ref p] = [.ref a] ∧ SqT K H a ys ∧ R a := ⟨p, xs, rfl, hp, h⟩
end Gx

/-! a dict beside a text by != -/
namespace Gx
open PySem PySem.Spec PyProof.Rows L2 Evl
open Sem (wp)
theorem dict_ne_str (l : Addr) (es : Array DictEntry) (n : Nat) (dd : Option Addr) (sl : Array (Option Value)) (b : Str) (u : Tok) :
    Meets (Builtin.«dict.__ne__» ⟨[.ref l, .str b u], []⟩) (fun _ R s => s.heap.get? l = some { cls := .type "dict", dict := dd, data := .dict es n, slots := sl } ∧ R (.ok (.ret .notImplemented)) s) :=
  .of_wp fun prog w A R s h => by
    obtain ⟨hp, g, d, tk, os⟩ := s
    obtain ⟨hl, h⟩ := h
    have f1 := F.sub_str_dict
    wp_walk using wpAny_loadPart' hl
    exact ⟨_, rfl, h⟩
theorem str_ne_dict (l : Addr) (c : Value) (es : Array DictEntry) (n : Nat) (dd : Option Addr) (sl : Array (Option Value)) (b : Str) (u : Tok) :
    Meets (Builtin.«str.__ne__» ⟨[.str b u, .ref l], []⟩) (fun _ R s => s.heap.get? l = some { cls := c, dict := dd, data := .dict es n, slots := sl } ∧ R (.ok (.ret .notImplemented)) s) :=
  .of_wp fun prog w A R s h => by
    obtain ⟨hp, g, d, tk, os⟩ := s
    obtain ⟨hl, h⟩ := h
    wp_walk using wpAny_loadPart' hl, wpAny_load hl
    exact ⟨_, rfl, h⟩
def rNeDk : R2 := fun x y H Q => ∃ (p : Addr) (kvs : List (Key × V)) (z : Str), x = .ref p ∧ H p = some (.dK kvs) ∧ y = .str z ∧ Q (.bl true) H
theorem op_neDk {X : Cx} (hu : X.A.units < cLine) : OpR X (compareOp .NotEq) rNeDk := by
  intro pins s σ H x y v u Q I rx ry h
  obtain ⟨p, kvs, z, rfl, hp, rfl, q⟩ := h
  cases rx
  obtain ⟨t, rfl⟩ := ry
  obtain ⟨_, _, vs, _, D⟩ := (show ObjOk X.prog X.w H s.heap p (.dK kvs) from I.hok p _ hp)
  obtain ⟨⟨cls, dd, data, sl⟩, es, ep, e, c, hd, _⟩ := D
  have hc : cls = .type "dict" := c.1
  simp only at hc hd
  subst hc hd
  show wpAny (model X.prog X.w) X.A (richCompare .NotEq (.ref p) (.str z t)) (EP X pins σ Q) X.xe s
  exact PySem.SeqAt.rc_ne_decline_or (k := false) ⟨_, e, rfl⟩ rfl (by decide) F.sub_str_dict F.slot_dict_ne F.slot_str_ne_refl
    (fun _ hq => call_meets F.slot_dict_ne ⟨_, e, rfl⟩ F.entry_dict_ne (F.args_dict_ne_2 _ _) (dict_ne_str p es ep dd sl z t) ⟨e, hq⟩)
    (fun _ hq => call_meets F.slot_str_ne_refl rfl F.entry_str_ne (F.args_str_ne_2 _ _) (str_ne_dict p _ es ep dd sl z t) ⟨e, hq⟩)
    (fun _ hq => wpAny_of_eq (rfl : isSame (.ref p) (.str z t) = pure false) hq) (.inr hu) ⟨.bl true, H, I, rfl, q⟩
end Gx

/-! repr of lists and tuples; defs that are called where no repr is under way -/
namespace Gx
open PySem PySem.Spec PyProof.Rows L2 Evl
def rRepr (K : PySem.W.Frag) : List V → Hp → VK → Prop := fun xs H Q => ∃ (a : Addr) (d : PyData), xs = [.ref a] ∧ Dp K H (.ref a) d ∧ d.showable = true ∧ d.hasDict = false ∧ d.depth ≤ 64 ∧ d.shown.length ≤ sizeLine ∧ Q (.str d.shown) H
theorem call_repr {X : Cx} (hg : X.A.guards = some []) (hu : X.A.units + 66 < cLine) : CallR X (.builtin "repr") (rRepr X.K) := by
  intro pins s σ H xs us Q I r h
  obtain ⟨a, d, rfl, hd, sh, nd, dp, sz, q⟩ := h
  obtain ⟨u, rfl, ru⟩ : ∃ u, us = [u] ∧ RelV (V.ref a) u := by
    cases r with
    | cons r rr => cases rr; exact ⟨_, rfl, r⟩
  cases ru
  obtain ⟨as, rd⟩ := Dp.reads I d (.ref a) (.ref a) hd rfl
  exact repr_of_reads' rd sh (PyData.noDict_hsm nd) hg (by omega) (fun _ _ e => e) (fun h' t tk hk => ⟨.str d.shown, H, I.kept (t' := tk) hk, ⟨t, rfl⟩, q⟩) sz
/-- a def as its callers see it, where no repr is under way -/
structure FnG (P : Program) (w : World) (K : PySem.W.Frag) (mg : Str → Option Value) (base : Heap) (CX : CXT) (k : Nat) (f : Addr) (fd : FuncData) (ps : List Str) (sp : Sp) : Prop where
  len : ∀ vs H Q E, sp vs H Q E → vs.length = ps.length
  run : ∀ (A : Around) (outer : List Env) (s : Shared) (H : Hp) (args : Args) (us : List Value) (vs : List V) (Q : VK) (E : XK), A.guards = some [] → Room k A → Env0 P w K mg base A outer s H → BindsTo s fd args (ps.zip us) → Vals vs us → sp vs H Q E →
    codeAny (model P w) A (.call (.ref f) args) (CR CX outer P w H s Q E) s
section
variable {P : Program} {w : World} {K : PySem.W.Frag} {mg : Str → Option Value} {base : Heap}
theorem okG {CX : CXT} {x qual : Str} {st : Stmt} {f : Addr} {fd : FuncData} {N ps : List Str} {k : Nat} {sp : Sp} (F : Fun K x qual st f fd) (S : FnScope N ps (defScope st)) (len : ∀ vs H Q E, sp vs H Q E → vs.length = ps.length)
    (body : ∀ (cdv : Value) (A : Around) (outer : List Env) (s : Shared) (H : Hp) (vs : List V) (Q : VK) (E : XK), A.guards = some [] → Room k (A.deeper (envOfC qual (defScope st) s.heap.objs.size f cdv)) → sp vs H Q E →
      ∃ t, PSs (cxOf CX P w K mg base N qual (defScope st) f cdv A outer s H E) (defBody st) t ∧ t { nx := fun _ H' => Q .non H', rt := Q } (start N vs) H) : FnG P w K mg base CX (k + 1) f fd ps sp := by
  obtain ⟨oc, od, kV, doc, pm, an, cdv, ct, osl, rfl, lk, hcd⟩ := F.ex
  refine ⟨len, fun A outer s H args us vs Q E hg hr e0 hb r hsp => ?_⟩
  have many := len _ _ _ _ hsp
  have KX : K.In s.heap := e0.mod.kin.keeps fun b o e => (e0.bs b o e).1
  have kinds : ∀ y ∈ ps.zip us, (defScope st).names.lookup y.1 = some .local ∨ ((defScope st).names.lookup y.1 = some .cell ∧ ((cellsFrom (s.heap.objs.size + 1) (defScope st).names []).lookup y.1).isSome = true) := fun y hy =>
    (S.par y.1 (List.of_mem_zip (show (y.1, y.2) ∈ ps.zip us from hy)).1).imp id fun q => ⟨q, PySem.W.cellsFrom_some _ _ _ (.inl q)⟩
  refine codeAny_call_function hr.depth (KX _ _ lk) rfl S.co S.gen rfl (PySem.W.codeRec_of KX hcd) (hb _ _ _ _ (wpAny_newFunctionEnv_cells S.kind kinds fun env he s1 x => ?_))
  subst he
  refine ⟨(e0.mod.nolimit.keeps fun b o e => (e0.bs b o e).1).keeps x.toInCall.keep, codeAny_func ?_⟩
  obtain ⟨t, ht, start_ok⟩ := body cdv A outer s H vs Q E hg (hr.deeper _) hsp
  refine wpAny_mono (ht.run [] s1 (start N vs) H _ (inv_start S hr.hd e0 many r x) start_ok) (fun fl s' hs => ?_) fun e s' hs => hs
  cases fl with
  | ret u =>
    obtain ⟨v, σ', H', J, rv, q⟩ := hs
    exact ⟨v, H', J.os, J.bare, J.base, J.hok, rv, q⟩
  | next =>
    obtain ⟨σ', H', J, q⟩ := hs
    exact ⟨.non, H', J.os, J.bare, J.base, J.hok, rfl, q⟩
  | brk => exact hs.elim fun _ h => h.elim fun _ h => h.2.elim
  | cont => exact hs.elim fun _ h => h.elim fun _ h => h.2.elim
end
section
variable {X : Cx} {CX : CXT} {k : Nat} {f : Addr} {fd : FuncData} {ps : List Str} {sp : Sp} {E : XK} {x : Str} {p pos : Pos} {e : Expr} {es : List Expr} {t : TA}
structure CalG (P : Program) (w : World) (K : PySem.W.Frag) (mg : Str → Option Value) (base : Heap) (CX : CXT) (k : Nat) (x : Str) (ps : List Str) (sp : Sp) : Prop where
  ex : ∃ (f : Addr) (fd : FuncData), FnG P w K mg base CX k f fd ps sp ∧ mg x = some (.ref f) ∧ PySem.W.keepIn K (.ref f) = true ∧ Binds K fd ps []
theorem pe_calG (C : CalG X.prog X.w X.K X.mg X.base CX k x ps sp) (hg : X.A.guards = some []) (hr : Room k X.A) (gl : Gl X x) (hx : Passes CX X E) (ha : PA X (e :: es) t) (hdb : (x == ("__debug__" : Str)) = false := by decide)
    (he : starEach (e :: es) X.env = (false, eval e X.env) :: starEach es X.env := by rfl) (hpl : (backTo pos (starEach es X.env)).any (·.1) = false := by rfl) : PE X (.Call (.Name x p) (e :: es) [] pos) (tCall sp [] E t) := by
  obtain ⟨f, fd, F, m, kp, B⟩ := C.ex
  constructor
  intro pins s σ H Q I h
  refine wpAny_Call_Name_kw (ld_glob I gl m (PySem.W.callWith_K (h₀ := X.base) I.ok.mod.kin kp (thn (ha.run pos pins s σ H _ I h) fun us s1 hv => ?_) he hpl) hdb)
  obtain ⟨vs, H1, I1, r, q⟩ := hv
  refine ⟨I1.kIn, ?_⟩
  have r2 : Vals (vs ++ []) (us ++ []) := by rw [List.append_nil, List.append_nil]; exact r
  have hl : (us ++ ([] : List Value)).length = ps.length := by rw [← r2.length]; exact F.len _ _ _ _ q
  refine wpAny_call (codeAny_mono (F.run X.A X.stack s1 H1 ⟨us, []⟩ (us ++ []) (vs ++ []) Q E hg hr I1.env0 (B s1 us I1.kIn hl) r2 q) fun r s' hq => ?_)
  cases r with
  | error e => exact hx pins σ H1 s1 e s' I1 hq
  | ok fl =>
    cases fl with
    | ret u => exact I1.after hq
    | next => exact hq.elim
    | brk => exact hq.elim
    | cont => exact hq.elim
end
end Gx

/-! the law's own call, from its promise where no repr is under way -/
namespace Gx
open PySem PySem.Spec PyProof.Rows L2 Evl
section
variable {P : Program} {w : World} {K : PySem.W.Frag} {mg mb : Str → Option Value} {CX : CXT} {k : Nat} {fa a : Addr} {fd : FuncData} {x : Str} {sp : Sp} {s₁ : Shared} {vs : List Value} {ns : List Int}
/-- the call from a heap in which at most the script is tracked -/
theorem callG (KX : K.In s₁.heap) (hns : s₁.heap.Ns mainGlobals mg) (hb : s₁.heap.Ns builtinsNs mb) (hbb : ∀ x : Str, x ≠ "__name__" → mb x = bootBuiltins x) (hlim : s₁.heap.NoLimit) (hg : s₁.gens = #[])
    (ha : s₁.heap.get? a = some { cls := .type "list", data := .seq vs.toArray }) (hr : Room k callerA)
    (F : ∀ base : Heap, K.In base → base.Ns mainGlobals mg → FnG P w K mg base CX k fa fd [x] sp) (hbind : ∀ (s : Shared) (u : Value), BindsTo s fd ⟨[u], []⟩ [(x, u)])
    {H : Hp} (only : Only H) (here : sp [.ref a] H (fun v _ => v = .bl true) fun _ _ _ => False) (hCX : ∀ e s', CX [] H s₁ (fun _ _ _ => False) e s' → False)
    (hok : HOk P w H s₁.heap) (alone : ∀ b, H b ≠ none → b = a) (apart : H a ≠ none → K.lookup a = none) :
    codeAny (model P w) callerA (.call (.ref fa) ⟨[.ref a], []⟩) (fun r s' => r = .ok (.ret (.bool true)) ∧ OldK s₁.heap s'.heap ∧ s'.os = s₁.os ∧ AllBare s'.gens) s₁ := by
  have noD : ∀ {b : Addr} {o : Obj} {es : Array DictEntry} {ep : Nat}, s₁.heap.get? b = some o → o.data = .dict es ep → H b = none := fun {b o es ep} e d => Classical.byContradiction fun n => by
    obtain rfl := alone b n
    rw [ha] at e
    cases e
    exact absurd d (by intro z; cases z)
  have low : ∀ {b : Addr} {m : Str → Option Value}, s₁.heap.Ns b m → (hidT s₁.heap H).Ns b m := fun {b m} ⟨o, es, ep, e, d, r⟩ => ⟨o, es, ep, hidT_get e (noD e d), d, r⟩
  have inK : K.In (hidT s₁.heap H) := fun b o e => hidT_get (KX b o e) (Classical.byContradiction fun n => by
    obtain rfl := alone b n
    rw [apart n] at e
    cases e)
  have mod : Mod K mg (hidT s₁.heap H) := ⟨inK, low hns, ⟨mb, low hb, hbb⟩, let ⟨mc, h1, h2⟩ := hlim; ⟨mc, low h1, h2⟩⟩
  have env : Env0 P w K mg (hidT s₁.heap H) callerA [] s₁ H := ⟨rfl, mod, fun b o e => of_hidT e, Nat.le_of_eq (hidT_size _ _), trivial, fun b hb => absurd (show b ∈ ([] : List Addr) from hb) (by simp), hok, .of_eq hg⟩
  refine codeAny_mono ((F _ inK (low hns)).run callerA [] s₁ H ⟨[.ref a], []⟩ [.ref a] [.ref a] _ _ rfl hr env (hbind s₁ (.ref a)) (.cons rfl .nil) here) fun r s' h => ?_
  match r, h with
  | .error e, h => exact (hCX e s' h).elim
  | .ok (.ret u), h =>
    obtain ⟨v, H', os, bare, un, hok', rv, rfl⟩ := h
    obtain rfl : u = Value.bool true := rv
    refine ⟨rfl, OldK.of_keep fun b o e => ?_, os, bare⟩
    match q : H b with
    | none => exact un.keep b o e q (fun z => absurd (show b ∈ ([] : List Addr) from z) (by simp)) (by simp)
    | some t =>
      rcases only b with z | ⟨ob, xs, z⟩
      · rw [q] at z; cases z
      · obtain ⟨e1, _⟩ := hok b _ z
        obtain ⟨e2, _⟩ := hok' b _ (un.frzs b ob _ z)
        rw [e] at e1
        cases e1
        exact e2
  | .ok .next, h => exact h.elim
  | .ok .brk, h => exact h.elim
  | .ok .cont, h => exact h.elim
end
theorem walkG {l : PySem.W.OpenLaw} {n k : Nat} {q : Program} {loose : List Str} {XP : (Str → Option Value) → Heap → Prop} {YP : World → Heap → Prop} {d : DefRec} {K : Params → PySem.W.Frag} {sp : World → Sp} {x : Str}
    (hn : l.most = some n) (hn2 : n ≤ sizeLine) (hdf : d.params.defaults = []) (hr : Room k callerA) (hY : ∀ (w : World) (h : Heap), YP w h → (K w.params).In h)
    (F : ∀ (w : World) (mg : Str → Option Value) (fa : Addr) (h : Heap), (K w.params).In h → h.Ns mainGlobals mg → mg d.name = some (.ref fa) →
      ∃ fd : FuncData, (∀ (s : Shared) (u : Value), BindsTo s fd ⟨[u], []⟩ [(x, u)]) ∧ ∀ base : Heap, (K w.params).In base → base.Ns mainGlobals mg → FnG l.prog w (K w.params) mg base CX0 k fa fd [x] (sp w))
    (hsp : ∀ (w : World) (H : Hp) (a : Addr) (ns : List Int), ns.length ≤ n → Only H → SqL (K w.params) H a (ns.map V.int) → sp w [.ref a] H (fun v _ => v = .bl true) fun _ _ _ => False) :
    PySem.W.WalkO q loose XP YP l.row.toRowW d [] (fun f vs => PySem.call f vs) := by
  refine Att.attach_call hn hdf fun w s₀ s₁ mg mb fa o pm cd doc a vs ns G Y ho hd hcd hmg hobj hints hlen hg => ?_
  have KX := hY w _ Y
  obtain ⟨fd, hb, hF⟩ := F w mg fa _ KX G.T.g hmg
  have rv := vals_ints hints
  have many := hints.length
  have small := Nat.le_trans hlen hn2
  cases inside : (K w.params).lookup a with
  | some o =>
    have e := KX a o inside
    rw [hobj] at e
    cases e
    have hS : SqL (K w.params) (fun _ => none) a (ns.map V.int) := .inr ⟨_, vs.toArray, _, inside, rfl, rfl, rfl, by rw [List.size_toArray, many]; exact small, by simpa using rv⟩
    exact callG KX G.T.g G.T.b G.T.builtins G.T.nolimit hg hobj hr hF hb (H := fun _ => none) (fun _ => .inl rfl) (hsp w _ a ns hlen (fun _ => .inl rfl) hS) (fun _ _ z => z) (fun b u z => by cases (show (none : Option HO) = some u from z)) (fun b z => absurd rfl z) fun z => absurd rfl z
  | none =>
    have at_a : ∀ {b : Addr} {u : HO}, (if b = a then some (HO.frz { cls := .type "list", data := .seq vs.toArray } (.lst (ns.map V.int))) else none) = some u → b = a ∧ u = .frz { cls := .type "list", data := .seq vs.toArray } (.lst (ns.map V.int)) := fun {b u} z => by
      by_cases hba : b = a
      · rw [if_pos hba] at z; cases z; exact ⟨hba, rfl⟩
      · rw [if_neg hba] at z; cases z
    have only : Only (fun b => if b = a then some (HO.frz { cls := .type "list", data := .seq vs.toArray } (.lst (ns.map V.int))) else none) := fun b => by
      by_cases hba : b = a
      · exact .inr ⟨_, _, if_pos hba⟩
      · exact .inl (if_neg hba)
    refine callG KX G.T.g G.T.b G.T.builtins G.T.nolimit hg hobj hr hF hb only (hsp w _ a ns hlen only (.inl (.inr ⟨_, if_pos rfl⟩))) (fun _ _ z => z) (fun b u z => ?_) (fun b z => Classical.byContradiction fun nb => z (if_neg nb)) fun _ => inside
    obtain ⟨rfl, rfl⟩ := at_a z
    exact ⟨hobj, by rw [List.length_map]; exact small, vs, _, rv, hobj⟩
end Gx

/-! a def that may raise, called by keywords within a try; rooms; steps -/
namespace Gx
open PySem PySem.Spec PyProof.Rows L2 Evl
theorem room66 {k : Nat} {A : Around} (r : Room k A) : A.units + 66 < cLine := by have := r.un; omega
theorem room0 {k : Nat} {A : Around} (r : Room k A) : A.units < cLine := by have := r.un; omega
def tCallKS (sp : Sp) (gV : List V → List V → List V) (E : L2.St → XK) (tk : TA) : TE := fun σ H Q => tk σ H fun zs H2 => sp (gV [] zs) H2 Q (E σ)
theorem pe_calKS {X : Cx} {CX : CXT} {k : Nat} {x : Str} {ps ks : List Str} {sp : Sp} {E : L2.St → XK} {p pos : Pos} {kws : List Keyword} {tk : TA} {gV : List V → List V → List V}
    (C : CalK X.prog X.w X.K X.mg X.base CX k x ps ks gV sp) (hr : Room k X.A) (gl : Gl X x) (passes : ∀ σ, PassesAt CX X σ (E σ)) (hkw : PK X kws tk)
    (all1 : (backToKw pos (keywordEach kws X.env)).all (·.1.isSome) = true := by rfl) (names : (backToKw pos (keywordEach kws X.env)).filterMap (·.1) = ks := by rfl) (ndb : (x == ("__debug__" : Str)) = false := by decide)
    (plain2 : ((backTo pos (starEach [] X.env)).any (·.1) || (backToKw pos (keywordEach kws X.env)).any (·.1.isNone)) = false := by rfl) :
    PE X (.Call (.Name x p) [] kws pos) (tCallKS sp gV E tk) := by
  obtain ⟨f, fd, g, F, m, kp, B⟩ := C.ex
  constructor
  intro pins s σ H Q I h
  refine wpAny_Call_Name_kw (ld_glob I gl m (PySem.W.callWith_KW0 (h₀ := X.base) I.ok.mod.kin kp all1 (thn (hkw.run pos pins s σ H _ I h) fun ws s2 hz => ?_) plain2) ndb)
  obtain ⟨zs, H2, I2, rz, q2⟩ := hz
  refine ⟨I2.kIn, ?_⟩
  rw [names]
  have r2 : Vals (gV [] zs) (g [] ws) := B.rel .nil rz
  have hl : (g [] ws).length = ps.length := by rw [← r2.length]; exact F.len _ _ _ _ q2
  refine wpAny_call (codeAny_mono (F.run X.A X.stack s2 H2 ⟨[], ks.zip ws⟩ (g [] ws) (gV [] zs) Q (E σ) hr I2.env0 (B.to s2 [] ws I2.kIn hl) r2 q2) fun r s' hq => ?_)
  cases r with
  | error e => exact passes σ pins H2 s2 e s' I2 hq
  | ok fl =>
    cases fl with
    | ret u => exact I2.after hq
    | next => exact hq.elim
    | brk => exact hq.elim
    | cont => exact hq.elim
theorem c_callKS {σ : L2.St} {H : Hp} {Q : VK} {sp : Sp} {gV : List V → List V → List V} {E : L2.St → XK} {tk : TA} (h : tk σ H fun zs H2 => sp (gV [] zs) H2 Q (E σ)) : tCallKS sp gV E tk σ H Q := h
end Gx

/-! str of an instance by its own __str__; defs that are called once a token is out; what is never come to -/
namespace Gx
open PySem PySem.Spec PyProof.Rows L2 Evl
/-! ### str(x), x an instance with its own __str__ -/
def rStrOwn (C : Addr) (sp : Sp) (E : XK) : List V → Hp → VK → Prop := fun xs H Q => ∃ (a dx : Addr) (fs : List (Str × V)), xs = [.ref a] ∧ H a = some (.ins C dx fs) ∧ sp [.ref a] H (fun v H' => (∃ z, v = .str z) ∧ Q v H') E
structure StrC (P : Program) (w : World) (K : PySem.W.Frag) (mg : Str → Option Value) (base : Heap) (CX : CXT) (k : Nat) (C : Addr) (sp : Sp) : Prop where
  ex : ∃ (f : Addr) (fd : FuncData) (ps : List Str), FnOk P w K mg base CX k f fd ps sp ∧ PySem.W.findIn K (.ref C) "__str__" = some (some (.ref f)) ∧ PySem.W.isFn K (.ref f) = true ∧ Binds K fd ps []
theorem call_strOwn {X : Cx} {CX : CXT} {k : Nat} {C : Addr} {sp : Sp} {E : XK} (M : StrC X.prog X.w X.K X.mg X.base CX k C sp) (room : Room (k + 2) X.A) (passes : Passes CX X E) : CallR X (.type "str") (rStrOwn C sp E) := by
  obtain ⟨f, fd, ps, F, at_, fn, B⟩ := M.ex
  intro pins s σ H xs us Q I r h
  obtain ⟨a, dx, fs, rfl, ha, q⟩ := h
  obtain ⟨u, rfl, ru⟩ : ∃ u, us = [u] ∧ RelV (V.ref a) u := by
    cases r with
    | cons r rr => cases rr; exact ⟨_, rfl, r⟩
  cases ru
  obtain ⟨mA, J, _⟩ := ins_get I.hok ha
  obtain ⟨od, J, _⟩ := J.look
  have r2 : Vals [V.ref a] [Value.ref a] := .cons rfl .nil
  have lens : [Value.ref a].length = ps.length := by rw [← r2.length]; exact F.len _ _ _ _ q
  have bound := B s [.ref a] I.kIn (by rw [List.append_nil]; exact lens)
  rw [List.append_nil] at bound
  refine PySem.W.kso_call room.in1.in1.units0 I.kIn J at_ fn (wpAny_call (codeAny_mono (F.run X.A.in1.in1 X.stack s H ⟨[.ref a], []⟩ _ _ _ E room.in1.in1 I.env0.in1.in1 bound r2 q) fun r t2 ht => ?_))
  rcases r with e | fl
  · exact passes pins σ H s e t2 I ht
  cases fl with
  | next => exact False.elim ht
  | brk => exact False.elim ht
  | cont => exact False.elim ht
  | ret o =>
    obtain ⟨v, H', J', rv, ⟨z, rfl⟩, q'⟩ := I.after ht
    obtain ⟨tk, rfl⟩ := rv
    exact ⟨.str z, H', J', ⟨tk, rfl⟩, q'⟩
/-! ### a def that is called once a token is out -/
structure FnT (P : Program) (w : World) (K : PySem.W.Frag) (mg : Str → Option Value) (base : Heap) (CX : CXT) (k : Nat) (f : Addr) (fd : FuncData) (ps : List Str) (sp : Sp) : Prop where
  len : ∀ vs H Q E, sp vs H Q E → vs.length = ps.length
  run : ∀ (A : Around) (outer : List Env) (s : Shared) (H : Hp) (args : Args) (us : List Value) (vs : List V) (Q : VK) (E : XK), 1 ≤ s.toks → Room k A → Env0 P w K mg base A outer s H → BindsTo s fd args (ps.zip us) → Vals vs us → sp vs H Q E →
    codeAny (model P w) A (.call (.ref f) args) (CR CX outer P w H s Q E) s
section
variable {P : Program} {w : World} {K : PySem.W.Frag} {mg : Str → Option Value} {base : Heap}
theorem okT {CX : CXT} {x qual : Str} {st : Stmt} {f : Addr} {fd : FuncData} {N ps : List Str} {k : Nat} {sp : Sp} (F : Fun K x qual st f fd) (S : FnScope N ps (defScope st)) (len : ∀ vs H Q E, sp vs H Q E → vs.length = ps.length)
    (body : ∀ (cdv : Value) (A : Around) (outer : List Env) (s : Shared) (H : Hp) (vs : List V) (Q : VK) (E : XK), Room k (A.deeper (envOfC qual (defScope st) s.heap.objs.size f cdv)) → sp vs H Q E →
      ∃ t, PSsT (cxOf CX P w K mg base N qual (defScope st) f cdv A outer s H E) (defBody st) t ∧ t { nx := fun _ H' => Q .non H', rt := Q } (start N vs) H) : FnT P w K mg base CX (k + 1) f fd ps sp := by
  obtain ⟨oc, od, kV, doc, pm, an, cdv, ct, osl, rfl, lk, hcd⟩ := F.ex
  refine ⟨len, fun A outer s H args us vs Q E hg hr e0 hb r hsp => ?_⟩
  have many := len _ _ _ _ hsp
  have KX : K.In s.heap := e0.mod.kin.keeps fun b o e => (e0.bs b o e).1
  have kinds : ∀ y ∈ ps.zip us, (defScope st).names.lookup y.1 = some .local ∨ ((defScope st).names.lookup y.1 = some .cell ∧ ((cellsFrom (s.heap.objs.size + 1) (defScope st).names []).lookup y.1).isSome = true) := fun y hy =>
    (S.par y.1 (List.of_mem_zip (show (y.1, y.2) ∈ ps.zip us from hy)).1).imp id fun q => ⟨q, PySem.W.cellsFrom_some _ _ _ (.inl q)⟩
  refine codeAny_call_function hr.depth (KX _ _ lk) rfl S.co S.gen rfl (PySem.W.codeRec_of KX hcd) (hb _ _ _ _ (wpAny_with_toks (n := 1) hg (wpAny_newFunctionEnv_cells S.kind kinds fun env he s1 x hk => ?_)))
  subst he
  refine ⟨(e0.mod.nolimit.keeps fun b o e => (e0.bs b o e).1).keeps x.toInCall.keep, codeAny_func ?_⟩
  obtain ⟨t, ht, start_ok⟩ := body cdv A outer s H vs Q E (hr.deeper _) hsp
  refine wpAny_mono (ht [] s1 (start N vs) H _ hk (inv_start S hr.hd e0 many r x) start_ok) (fun fl s' hs => ?_) fun e s' hs => hs
  cases fl with
  | ret u =>
    obtain ⟨v, σ', H', J, rv, q⟩ := hs
    exact ⟨v, H', J.os, J.bare, J.base, J.hok, rv, q⟩
  | next =>
    obtain ⟨σ', H', J, q⟩ := hs
    exact ⟨.non, H', J.os, J.bare, J.base, J.hok, rfl, q⟩
  | brk => exact hs.elim fun _ h => h.elim fun _ h => h.2.elim
  | cont => exact hs.elim fun _ h => h.elim fun _ h => h.2.elim
end
section
variable {X : Cx} {CX : CXT} {k : Nat} {f : Addr} {fd : FuncData} {ps : List Str} {sp : Sp} {E : XK} {x : Str} {p pos : Pos} {e : Expr} {es : List Expr} {t : TA} {te : TE}
structure CalT (P : Program) (w : World) (K : PySem.W.Frag) (mg : Str → Option Value) (base : Heap) (CX : CXT) (k : Nat) (x : Str) (ps : List Str) (sp : Sp) : Prop where
  ex : ∃ (f : Addr) (fd : FuncData), FnT P w K mg base CX k f fd ps sp ∧ mg x = some (.ref f) ∧ PySem.W.keepIn K (.ref f) = true ∧ Binds K fd ps []
theorem CalT.land (F : FnT X.prog X.w X.K X.mg X.base CX k f fd ps sp) (B : Binds X.K fd ps []) (hr : Room k X.A) (hx : Passes CX X E) {pins : List (Addr × Obj)} {σ : L2.St} {H1 : Hp} {s1 : Shared} {vs : List V} {us : List Value} {Q : VK} (h1 : 1 ≤ s1.toks) (I1 : Inv X pins σ H1 s1) (r : Vals vs us) (q : sp (vs ++ []) H1 Q E) :
    wpAny (model X.prog X.w) X.A (call (.ref f) us) (EP X pins σ Q) X.xe s1 := by
  have r2 : Vals (vs ++ []) (us ++ []) := by rw [List.append_nil, List.append_nil]; exact r
  have hl : (us ++ ([] : List Value)).length = ps.length := by rw [← r2.length]; exact F.len _ _ _ _ q
  refine wpAny_call (codeAny_mono (F.run X.A X.stack s1 H1 ⟨us, []⟩ (us ++ []) (vs ++ []) Q E h1 hr I1.env0 (B s1 us I1.kIn hl) r2 q) fun r s' hq => ?_)
  cases r with
  | error e => exact hx pins σ H1 s1 e s' I1 hq
  | ok fl =>
    cases fl with
    | ret u => exact I1.after hq
    | next => exact hq.elim
    | brk => exact hq.elim
    | cont => exact hq.elim
/-- a token is out ahead of the call -/
theorem pet_calT (C : CalT X.prog X.w X.K X.mg X.base CX k x ps sp) (hr : Room k X.A) (gl : Gl X x) (hx : Passes CX X E) (ha : PAT X (e :: es) t) (hdb : (x == ("__debug__" : Str)) = false := by decide)
    (he : starEach (e :: es) X.env = (false, eval e X.env) :: starEach es X.env := by rfl) (hpl : (backTo pos (starEach es X.env)).any (·.1) = false := by rfl) : PET X (.Call (.Name x p) (e :: es) [] pos) (tCall sp [] E t) := by
  obtain ⟨f, fd, F, m, kp, B⟩ := C.ex
  intro pins s σ H Q h0 I h
  refine wpAny_Call_Name_kw (ld_glob I gl m (PySem.W.callWith_K (h₀ := X.base) I.ok.mod.kin kp (wpAny_mono (wpAny_toks (ha pos pins s σ H _ h0 I h)) (fun us s1 hv => ?_) fun _ _ z => z.2) he hpl) hdb)
  obtain ⟨hk, vs, H1, I1, r, q⟩ := hv
  exact ⟨I1.kIn, CalT.land F B hr hx (Nat.le_trans h0 hk) I1 r q⟩
/-- a token is out behind it -/
def PE1 (X : Cx) (e : Expr) (t : TE) : Prop :=
  ∀ (pins : List (Addr × Obj)) (s : Shared) (σ : L2.St) (H : Hp) (Q : VK), Inv X pins σ H s → t σ H Q → wpAny (model X.prog X.w) X.A (eval e X.env) (fun v s' => 1 ≤ s'.toks ∧ EP X pins σ Q v s') X.xe s
theorem pe1_str {z : Str} {j : Nat} {pos : Pos} : PE1 X (.Constant (.str z) j pos) (tC (.str z)) := fun _ s _ H _ I h => Calls.Constant_str ⟨by show 1 ≤ s.toks + 1; omega, .str z, H, I.tok _, ⟨_, rfl⟩, h⟩
theorem pe1_int {i : Int} {j : Nat} {pos : Pos} : PE1 X (.Constant (.int i) j pos) (tC (.int i)) := fun _ s _ H _ I h => wpAny_Constant_int ⟨by show 1 ≤ s.toks + 1; omega, .int i, H, I.tok _, ⟨_, rfl⟩, h⟩
/-- e[i], i an int that is written -/
theorem pe1_ix {r : R2} {a b : Expr} {ta tb : TE} (hr : IxR X r) (ha : PE X a ta) (hb : PE1 X b tb) (hs : PlainIx b) : PE1 X (.Subscript a b pos) (tOp r ta tb) := by
  intro pins s σ H Q I h
  refine Subscript_ (thn (ha.run pins s σ H _ I h) fun v s1 ⟨x, H1, I1, r1, q1⟩ => ?_)
  refine thn (hb pins s1 σ H1 _ I1 q1) fun u s2 ⟨h1, y, H2, I2, r2, q2⟩ => ?_
  exact wpAny_mono (wpAny_toks_of h1 (hr a b pins s2 σ H2 x y v u Q I2 r1 r2 q2 (hs _ _))) (fun _ _ z => z) fun _ _ z => z.2
theorem pe_calT1 (C : CalT X.prog X.w X.K X.mg X.base CX k x ps sp) (hr : Room k X.A) (gl : Gl X x) (hx : Passes CX X E) (ha : PE1 X e te) (hdb : (x == ("__debug__" : Str)) = false := by decide)
    (he : starEach [e] X.env = (false, eval e X.env) :: starEach [] X.env := by rfl) (hpl : (backTo pos (starEach [] X.env)).any (·.1) = false := by rfl) : PE X (.Call (.Name x p) [e] [] pos) (tCall sp [] E (tCons te tNil)) := by
  obtain ⟨f, fd, F, m, kp, B⟩ := C.ex
  constructor
  intro pins s σ H Q I h
  refine wpAny_Call_Name_kw (ld_glob I gl m (PySem.W.callWith_K (h₀ := X.base) I.ok.mod.kin kp ?_ he hpl) hdb)
  rw [he]
  show wpAny _ _ (spliced ((false, eval e X.env) :: backTo pos (starEach [] X.env))) _ _ s
  refine Calls.spliced_cons (thn (ha pins s σ H _ I h) fun v s1 ⟨h1, y, H1, I1, r1, q1⟩ => Calls.spliced_nil ?_)
  exact ⟨I1.kIn, CalT.land F B hr hx h1 I1 (.cons r1 .nil) q1⟩
theorem pet_ifExp {c a b : Expr} {tt : TT} {ta tb : TE} (hc : PT X c tt) (ha : PET X a ta) (hb : PET X b tb) : PET X (.IfExp c a b pos) (tIf tt ta tb) := by
  intro pins s σ H Q h0 I h
  refine wpAny_IfExp (wpAny_mono (wpAny_toks (hc.run pins s σ H _ I h)) (fun d s1 q => ?_) fun _ _ z => z.2)
  obtain ⟨hk, H1, I1, q1⟩ := q
  cases d with
  | true => exact ha pins s1 σ H1 Q (Nat.le_trans h0 hk) I1 q1
  | false => exact hb pins s1 σ H1 Q (Nat.le_trans h0 hk) I1 q1
theorem pst_set {i : Nat} {x : Str} {pos' : Pos} (hN : X.N.Nodup) (hi : X.N[i]? = some x) (hx : Loc X.env.scope x) (he : PET X e te) (hs : swapsWith e (some (.Name x pos')) pos.line X.env = pure false := by rfl) (hf : X.fn x = true ∨ X.env.scope.names.lookup x = some .local := by first | exact .inl rfl | exact .inr rfl | assumption) :
    PST X (.Assign [.Name x pos'] e pos) (tAsg te (gName i)) := by
  intro pins s σ H D h0 I h
  refine wpAny_Assign_Name (thn (he pins s σ H _ h0 I h) fun v s1 ⟨y, H1, I1, r1, q1⟩ => ?_) hs
  exact store_ok I1 hN hi hx r1 (fun s2 I2 => ⟨_, H1, I2, q1⟩) hf
end
/-! ### never come to -/
def tDeadS : TS := fun _ _ _ => False
theorem ps_dead {X : Cx} {st : Stmt} : PS X st tDeadS := ⟨fun _ _ _ _ _ _ h => h.elim⟩
def tDeadE : TE := fun _ _ _ => False
theorem pe_dead {X : Cx} {e : Expr} : PE X e tDeadE := ⟨fun _ _ _ _ _ _ h => h.elim⟩
/-! ### try: .. except c: .. -/
def tTryO (K : PySem.W.Frag) (c : Value) (Wout : WX) (tb : WX → TS) (ts : Addr → Value → Option Addr → TS) : TS := fun D σ H => tb (wOnly K c ts Wout D) D σ H
/-! ### steps -/
section
variable {K : PySem.W.Frag} {σ : L2.St} {H : Hp} {Q : VK} {D : Ends} {te : TE}
theorem c_tryO {c : Value} {W : WX} {tb : WX → TS} {ts : Addr → Value → Option Addr → TS} (h : tb (wOnly K c ts W D) D σ H) : tTryO K c W tb ts D σ H := h
theorem c_repl {y z : Str} (h : te σ H fun v H1 => ∃ x, v = .str x ∧ x.length + (x.length + 1) * z.length ≤ 16777216 ∧ Q (.str (Txt.replace x y z)) H1) : CwR.tReplC te y z σ H Q := h
theorem c_fmt (h : te σ H fun x H1 => (∃ y : Str, x = .str y ∧ y.length ≤ sizeLine ∧ Q (.str y) H1) ∨ ∃ i : Int, x = .int i ∧ i.natAbs.log2 < 1920 ∧ Q (.str (toString i)) H1) : tFmt te σ H Q := h
theorem c_fmtS {y : Str} {R : Str → Prop} {S : Int → Prop} (hl : y.length ≤ 100000) (h : R y) : (∃ y' : Str, V.str y = .str y' ∧ y'.length ≤ sizeLine ∧ R y') ∨ ∃ i : Int, V.str y = .int i ∧ i.natAbs.log2 < 1920 ∧ S i := .inl ⟨y, rfl, sz_of hl, h⟩
def tFs (ts : List TE) : TE := fun σ H Q => tJs ts Str.empty σ H fun out H1 => Q (.str out) H1
theorem pe_fs {X : Cx} {v1 v2 : Expr} {rest : List Expr} {ts : List TE} {pos : Pos} (h : PJ X (v1 :: v2 :: rest) ts) : PE X (.JoinedStr (v1 :: v2 :: rest) pos) (tFs ts) := pe_joined h
theorem c_fs {ts : List TE} (h : tJs ts Str.empty σ H fun out H1 => Q (.str out) H1) : tFs ts σ H Q := h
theorem c_jn {acc : Str} {QJ : Str → Hp → Prop} (h : QJ acc H) : tJs [] acc σ H QJ := h
theorem c_jc {ts : List TE} {acc : Str} {QJ : Str → Hp → Prop} (h : te σ H fun x H1 => ∃ y : Str, x = .str y ∧ (acc ++ y).length ≤ sizeLine ∧ tJs ts (acc ++ y) σ H1 QJ) : tJs (te :: ts) acc σ H QJ := h
theorem c_js {acc y : Str} {R : Str → Prop} (hl : acc.length + y.length ≤ 100000) (h : R (acc ++ y)) : ∃ y' : Str, V.str y = .str y' ∧ (acc ++ y').length ≤ sizeLine ∧ R (acc ++ y') := ⟨y, rfl, by rw [len_app]; exact sz_of hl, h⟩
end
/-! ### texts: str, split, join -/
def rStrS : List V → Hp → VK → Prop := fun xs H Q => ∃ a, xs = [.str a] ∧ Q (.str a) H
theorem call_strS {X : Cx} : CallR X (.type "str") rStrS := SkE.call_str_str
def rSplit : V → List V → Hp → VK → Prop := fun x xs H Q => ∃ a b, x = .str a ∧ xs = [.str b] ∧ (b.length == 0) = false ∧ a.length + 2 ≤ sizeLine ∧ rNewStrs (Txt.split a b) H Q
theorem pe_splitR {X : Cx} {o e : Expr} {to te : TE} {apos pos : Pos} (ho : PE X o to) (he : PE X e te) (hs : starEach [e] X.env = [(false, eval e X.env)] := by rfl) (hbase : attributeBase o "split" X.env (eval o X.env) = eval o X.env := by rfl) (hline : (apos.endLine == pos.line) = true := by rfl) :
    PE X (.Call (.Attribute o "split" apos) [e] [] pos) (tM1 rSplit to te) := pe_split ho he hs hbase hline
theorem psst_oneS {X : Cx} {st : Stmt} {t : TS} (h : PST X st t) : PSsT X [st] t := CwR.psst_one h
theorem PSsT.nox {X : Cx} {st : List Stmt} {t : TS} (h : PSsT X.nox st t) : PSsT X st t := fun pins s σ H D h0 I hw =>
  wpAny_mono (h pins s σ H D h0 (I.wish _) hw) (fun _ _ q => q.unwish) fun _ _ z => False.elim z
theorem takesF {X : Cx} : Takes X (fun _ _ _ _ => False) := fun _ _ ⟨_, _, _, _, _, _, _, _, _, _, _, _, _, _, _, _, w⟩ => w.elim
/-- a def's call, one token out -/
theorem pet_cal {X : Cx} {CX : CXT} {k : Nat} {x : Str} {ps : List Str} {dvs : List V} {sp : Sp} {E : XK} {p pos : Pos} {e : Expr} {es : List Expr} {t : TA} (C : Cal X.prog X.w X.K X.mg X.base CX k x ps dvs sp) (hr : Room k X.A) (gl : Gl X x) (hx : Passes CX X E) (ha : PAT X (e :: es) t) (hdb : (x == ("__debug__" : Str)) = false := by decide)
    (he : starEach (e :: es) X.env = (false, eval e X.env) :: starEach es X.env := by rfl) (hpl : (backTo pos (starEach es X.env)).any (·.1) = false := by rfl) : PET X (.Call (.Name x p) (e :: es) [] pos) (tCall sp dvs E t) := by
  obtain ⟨f, fd, ds, F, m, kp, B, rd⟩ := C.ex
  intro pins s σ H Q h0 I h
  refine wpAny_Call_Name_kw (ld_glob I gl m (PySem.W.callWith_K (h₀ := X.base) I.ok.mod.kin kp (thn (ha pos pins s σ H _ h0 I h) fun us s1 hv => ?_) he hpl) hdb)
  obtain ⟨vs, H1, I1, r, q⟩ := hv
  refine ⟨I1.kIn, ?_⟩
  have r2 : Vals (vs ++ dvs) (us ++ ds) := r.append rd
  have hl : (us ++ ds).length = ps.length := by rw [← r2.length]; exact F.len _ _ _ _ q
  refine wpAny_call (codeAny_mono (F.run X.A X.stack s1 H1 ⟨us, []⟩ (us ++ ds) (vs ++ dvs) Q E hr I1.env0 (B s1 us I1.kIn hl) r2 q) fun r s' hq => ?_)
  cases r with
  | error e => exact hx pins σ H1 s1 e s' I1 hq
  | ok fl =>
    cases fl with
    | ret u => exact I1.after hq
    | next => exact hq.elim
    | brk => exact hq.elim
    | cont => exact hq.elim
section
variable {K : PySem.W.Frag} {σ : L2.St} {H : Hp} {Q : VK} {D : Ends} {to te : TE}
theorem c_m1 {r : V → List V → Hp → VK → Prop} (h : to σ H fun x H1 => (∃ a, x = .str a) ∧ te σ H1 fun y H2 => r x [y] H2 Q) : tM1 r to te σ H Q := h
theorem c_m1s {z : Str} {R : Prop} (h : R) : (∃ a, V.str z = .str a) ∧ R := ⟨⟨z, rfl⟩, h⟩
theorem g_strS {z : Str} (h : Q (.str z) H) : rStrS [.str z] H Q := ⟨z, rfl, h⟩
theorem g_split {a b : Str} (hb : (b.length == 0) = false) (hl : a.length ≤ 90000) (h : ∀ p H', H p = none → Ex H H' → H' p = some (.lst ((Txt.split a b).map V.str)) → Q (.ref p) H') : rSplit (.str a) [.str b] H Q :=
  ⟨a, b, rfl, rfl, hb, sz_of (by omega), fun p np => h p _ np (Ex.new np) upd_same⟩
end
end Gx

/-! texts replaced, split and read as words: the mathematics -/
namespace Gx
open PySem PySem.Spec PyProof.Rows L2 Evl
open TL (tl spl pre joinL)
def push (a : List Nat) : List (List Nat) → List (List Nat)
  | [] => [a]
  | p :: r => (a ++ p) :: r
theorem spl_ne (S : List Nat) : ∀ (l : List Nat) (k : Nat) (acc : List Nat), spl S k acc l ≠ []
  | [], k, acc => by rw [TL.spl_nil]; simp
  | c :: r, 0, acc => by
    cases h : pre S (c :: r) with
    | true => rw [TL.spl_hit h]; simp
    | false => rw [TL.spl_miss h]; exact spl_ne S r 0 _
  | c :: r, k + 1, acc => spl_ne S r k acc
theorem spl_acc (S : List Nat) : ∀ (l acc : List Nat), spl S 0 acc l = push acc (spl S 0 [] l)
  | [], acc => by rw [TL.spl_nil, TL.spl_nil]; simp [push]
  | c :: r, acc => by
    cases h : pre S (c :: r) with
    | true => rw [TL.spl_hit h, TL.spl_hit h]; simp [push]
    | false =>
      rw [TL.spl_miss h, TL.spl_miss h, spl_acc S r (acc ++ [c]), spl_acc S r ([] ++ [c])]
      cases hs : spl S 0 [] r with
      | nil => exact absurd hs (spl_ne S r 0 [])
      | cons p q => simp [push]
theorem joinL_push (Z a : List Nat) : ∀ ps : List (List Nat), ps ≠ [] → joinL Z (push a ps) = a ++ joinL Z ps
  | [], h => absurd rfl h
  | [p], _ => rfl
  | p :: q :: r, _ => by show (a ++ p) ++ (Z ++ joinL Z (q :: r)) = a ++ (p ++ (Z ++ joinL Z (q :: r))); simp
/-- S replaced by Z, from the left -/
def rep (S Z l : List Nat) : List Nat := joinL Z (spl S 0 [] l)
theorem rep_nil (S Z : List Nat) : rep S Z [] = [] := by unfold rep; rw [TL.spl_nil]; rfl
theorem rep_miss {S Z r : List Nat} {c : Nat} (h : pre S (c :: r) = false) : rep S Z (c :: r) = c :: rep S Z r := by
  unfold rep
  rw [TL.spl_miss h, spl_acc, joinL_push _ _ _ (spl_ne _ _ _ _)]; rfl
theorem rep_hit {S Z r : List Nat} {c : Nat} (h : pre S (c :: r) = true) : rep S Z (c :: r) = Z ++ rep S Z (r.drop (S.length - 1)) := by
  unfold rep
  rw [TL.spl_hit h, TL.spl_pass]
  cases hs : spl S 0 [] (r.drop (S.length - 1)) with
  | nil => exact absurd hs (spl_ne _ _ _ _)
  | cons p q => rfl
theorem replace_rep (x y z : Str) (hy : tl y ≠ []) : tl (Txt.replace x y z) = rep (tl y) (tl z) (tl x) := by
  obtain ⟨f, g, hn⟩ := StrLaws.occ_tight x y (TL.len1 hy)
  have key := TL.parts_spl hy _ 0 f (Nat.zero_le _) g hn
  rw [List.drop_zero] at key
  have hl : (y.length == 0) = false := by
    have := TL.len1 hy
    exact beq_eq_false_iff_ne.mpr (by omega)
  unfold Txt.replace
  rw [hl, Bool.false_and, Bool.or_false]
  unfold rep
  cases he : Builtin.Str.occurrences x y 0 x.length (x.length + 1) with
  | nil =>
    rw [he] at key
    have e0 : StrLaws.partsFrom x y.length 0 [] = [x] := by show [Builtin.Str.strSub x 0 x.length] = [x]; rw [StrLaws.sub_whole]
    rw [e0] at key
    rw [if_pos (by rfl), ← key]; rfl
  | cons i r =>
    rw [he] at key
    rw [if_neg (by simp), StrLaws.glued_eq_join, StrLaws.partsBetween_eq, TL.tl_join, key]
/-! ### the words of a row -/
def W (l : List Nat) : List (List Nat) := (spl [32] 0 [] l).filter fun w => decide (w ≠ [])
theorem pre1 (s c : Nat) (r : List Nat) : pre [s] (c :: r) = decide (c = s) := by
  by_cases h : c = s
  · subst h; rw [decide_eq_true rfl]; simp [pre]
  · rw [decide_eq_false h]; exact TL.pre_of_head [] r h
theorem W_nil : W [] = [] := by unfold W; rw [TL.spl_nil]; rfl
theorem W_blank (r : List Nat) : W (32 :: r) = W r := by
  unfold W
  rw [TL.spl_hit (by rw [pre1]; simp)]; rfl
theorem spl_free {p : List Nat} (h : 32 ∉ p) (r acc : List Nat) : spl [32] 0 acc (p ++ 32 :: r) = (acc ++ p) :: spl [32] 0 [] r := TL.spl_part1 (S := []) h
theorem W_word {p : List Nat} (h : 32 ∉ p) (hp : p ≠ []) (r : List Nat) : W (p ++ 32 :: r) = p :: W r := by
  unfold W
  rw [spl_free h, List.nil_append, List.filter_cons_of_pos (by simpa using hp)]
theorem W_last {p : List Nat} (h : 32 ∉ p) (hp : p ≠ []) : W p = [p] := by
  unfold W
  rw [TL.spl_last1 (S := []) h, List.nil_append, List.filter_cons_of_pos (by simpa using hp)]; rfl
/-- a row with blanks round its commas and arrows -/
def R1 (l : List Nat) : List Nat := rep [44] [32, 44, 32] l
def R2 (l : List Nat) : List Nat := rep [60, 45] [32, 60, 45, 32] l
theorem R1_nil : R1 [] = [] := rep_nil _ _
theorem R1_hit (r : List Nat) : R1 (44 :: r) = 32 :: 44 :: 32 :: R1 r := by unfold R1; rw [rep_hit (by rw [pre1]; simp)]; rfl
theorem R1_miss {c : Nat} (h : c ≠ 44) (r : List Nat) : R1 (c :: r) = c :: R1 r := rep_miss (by rw [pre1]; exact decide_eq_false h)
theorem R1_app : ∀ a b : List Nat, R1 (a ++ b) = R1 a ++ R1 b
  | [], b => by rw [R1_nil]; rfl
  | c :: a, b => by
    by_cases h : c = 44
    · subst h; rw [List.cons_append, R1_hit, R1_hit, R1_app a b]; rfl
    · rw [List.cons_append, R1_miss h, R1_miss h, R1_app a b]; rfl
theorem R1_free : ∀ p : List Nat, 44 ∉ p → R1 p = p
  | [], _ => R1_nil
  | c :: r, h => by
    rw [List.mem_cons] at h
    rw [R1_miss (fun e => h (.inl e.symm)), R1_free r fun m => h (.inr m)]
theorem R2_nil : R2 [] = [] := rep_nil _ _
theorem R2_hit (r : List Nat) : R2 (60 :: 45 :: r) = 32 :: 60 :: 45 :: 32 :: R2 r := by unfold R2; rw [rep_hit (by simp [pre])]; rfl
theorem R2_miss {c : Nat} (h : c ≠ 60) (r : List Nat) : R2 (c :: r) = c :: R2 r := rep_miss (TL.pre_of_head [45] r h)
theorem R2_app : ∀ a b : List Nat, 60 ∉ a → R2 (a ++ b) = a ++ R2 b
  | [], b, _ => rfl
  | c :: a, b, h => by
    rw [List.mem_cons] at h
    rw [List.cons_append, R2_miss (fun e => h (.inl e.symm)), R2_app a b fun m => h (.inr m)]; rfl
theorem R2_free (p : List Nat) (h : 60 ∉ p) : R2 p = p := by have := R2_app p [] h; rwa [R2_nil, List.append_nil] at this
def wordsL (l : List Nat) : List (List Nat) := W (R2 (R1 l))
/-- the words of a row as the program takes them -/
def wordsS (z : Str) : List Str := (Txt.split (Txt.replace (Txt.replace z "," " , ") "<-" " <- ") " ").filter fun w => decide (w ≠ ("" : Str))
theorem filter_tl : ∀ l : List Str, (l.filter fun w => decide (w ≠ ("" : Str))).map tl = (l.map tl).filter fun w => decide (w ≠ [])
  | [] => rfl
  | w :: r => by
    have ih := filter_tl r
    by_cases h : w = ("" : Str)
    · subst h
      rw [List.filter_cons_of_neg (by simp), List.map_cons, List.filter_cons_of_neg (by decide +kernel), ih]
    · have h2 : tl w ≠ [] := fun e => h (TL.ext_tl (by rw [e]; decide +kernel))
      rw [List.filter_cons_of_pos (by simpa using h), List.map_cons, List.map_cons, List.filter_cons_of_pos (by simpa using h2), ih]
theorem wordsS_tl (z : Str) : (wordsS z).map tl = wordsL (tl z) := by
  unfold wordsS wordsL W R1 R2
  rw [filter_tl, TL.split_spl _ _ (by decide +kernel) (TL.kind_ok (by decide +kernel)), replace_rep _ _ _ (by decide +kernel), replace_rep _ _ _ (by decide +kernel)]
  have e1 : tl (("," : Str)) = [44] := by decide +kernel
  have e2 : tl ((" , " : Str)) = [32, 44, 32] := by decide +kernel
  have e3 : tl (("<-" : Str)) = [60, 45] := by decide +kernel
  have e4 : tl ((" <- " : Str)) = [32, 60, 45, 32] := by decide +kernel
  have e5 : tl ((" " : Str)) = [32] := by decide +kernel
  rw [e1, e2, e3, e4, e5]
theorem wordsS_eq {z : Str} {ws : List Str} (h : wordsL (tl z) = ws.map tl) : wordsS z = ws := TL.map_tl_inj (by rw [wordsS_tl, h])
/-! ### going on behind a word -/
def plainW (p : List Nat) : Prop := 32 ∉ p ∧ 44 ∉ p ∧ 60 ∉ p ∧ p ≠ []
theorem wl_nil : wordsL [] = [] := by unfold wordsL; rw [R1_nil, R2_nil, W_nil]
theorem wl_blank (r : List Nat) : wordsL (32 :: r) = wordsL r := by unfold wordsL; rw [R1_miss (by decide), R2_miss (by decide), W_blank]
theorem wl_last {p : List Nat} (h : plainW p) : wordsL p = [p] := by unfold wordsL; rw [R1_free _ h.2.1, R2_free _ h.2.2.1, W_last h.1 h.2.2.2]
theorem wl_word {p : List Nat} (h : plainW p) (r : List Nat) : wordsL (p ++ 32 :: r) = p :: wordsL r := by
  unfold wordsL
  rw [R1_app, R1_free _ h.2.1, R1_miss (by decide), R2_app _ _ h.2.2.1, R2_miss (by decide), W_word h.1 h.2.2.2]
theorem wl_comma (r : List Nat) : wordsL (44 :: r) = [44] :: wordsL r := by
  unfold wordsL
  rw [R1_hit, R2_miss (by decide), R2_miss (by decide), R2_miss (by decide), W_blank]
  exact W_word (p := [44]) (by decide) (by decide) _
theorem wl_wcomma {p : List Nat} (h : plainW p) (r : List Nat) : wordsL (p ++ 44 :: r) = p :: [44] :: wordsL r := by
  have hc := wl_comma r
  unfold wordsL at hc ⊢
  rw [R1_app, R1_free _ h.2.1, R1_hit, R2_app _ _ h.2.2.1, R2_miss (by decide), W_word h.1 h.2.2.2]
  rw [R1_hit, R2_miss (by decide), W_blank] at hc
  rw [hc]
theorem wl_arrow (r : List Nat) : wordsL (60 :: 45 :: r) = [60, 45] :: wordsL r := by
  unfold wordsL
  rw [R1_miss (by decide), R1_miss (by decide), R2_hit, W_blank]
  exact W_word (p := [60, 45]) (by decide) (by decide) _
end Gx

/-! the text of a rule, and what words tell -/
namespace Gx
open PySem PySem.Spec PyProof.Rows L2 Evl
open TL (tl spl pre joinL)
def headT : V → Str
  | .str z => z
  | _ => "never"
def grS (bs us : List Str) : Str := Txt.join ", " (bs ++ us.map fun u => ("not " : Str) ++ u)
def ruleText (h : V) (bs us : List Str) : Str := if bs ++ us = [] then headT h else (headT h ++ (if h = .non then " " else " <- ")) ++ grS bs us
/-- the words of the items, commas between -/
def joinW : List (List Str) → List Str
  | [] => []
  | [p] => p
  | p :: q :: r => p ++ (("," : Str) :: joinW (q :: r))
def itemsW (bs us : List Str) : List (List Str) := bs.map (fun b => [b]) ++ us.map fun u => [("not" : Str), u]
def itemOk (it : List Str) : Prop := (∃ b, it = [b] ∧ plainW (tl b)) ∨ ∃ n u, it = [n, u] ∧ plainW (tl n) ∧ plainW (tl u)
def itT : List Str → List Nat
  | [b] => tl b
  | [n, u] => tl n ++ 32 :: tl u
  | _ => []
theorem wl_item {it : List Str} (h : itemOk it) (r : List Nat) : wordsL (itT it ++ 44 :: r) = it.map tl ++ [44] :: wordsL r := by
  rcases h with ⟨b, rfl, hb⟩ | ⟨n, u, rfl, hn, hu⟩
  · exact wl_wcomma hb r
  · show wordsL ((tl n ++ 32 :: tl u) ++ 44 :: r) = _
    rw [List.append_assoc]
    show wordsL (tl n ++ 32 :: (tl u ++ 44 :: r)) = _
    rw [wl_word hn, wl_wcomma hu]; rfl
theorem wl_itemE {it : List Str} (h : itemOk it) : wordsL (itT it) = it.map tl := by
  rcases h with ⟨b, rfl, hb⟩ | ⟨n, u, rfl, hn, hu⟩
  · exact wl_last hb
  · show wordsL (tl n ++ 32 :: tl u) = _
    rw [wl_word hn, wl_last hu]; rfl
theorem tl_comma : tl ((",") : Str) = [44] := by decide +kernel
theorem wl_items : ∀ {its : List (List Str)}, (∀ it ∈ its, itemOk it) → wordsL (joinL [44, 32] (its.map itT)) = (joinW its).map tl
  | [], _ => wl_nil
  | [p], h => wl_itemE (h p (.head _))
  | p :: q :: r, h => by
    have ih := wl_items (its := q :: r) fun it hi => h it (.tail _ hi)
    show wordsL (itT p ++ (44 :: 32 :: joinL [44, 32] ((q :: r).map itT))) = (p ++ (("," : Str) :: joinW (q :: r))).map tl
    rw [wl_item (h p (.head _)), wl_blank, ih, List.map_append, List.map_cons, tl_comma]
theorem plain_let {z : Str} (h : ∀ c ∈ tl z, isLet c = true) (hz : tl z ≠ []) : plainW (tl z) := by
  have no : ∀ k, isLet k = false → k ∉ tl z := fun k hk hm => by rw [h k hm] at hk; cases hk
  exact ⟨no 32 (by decide), no 44 (by decide), no 60 (by decide), hz⟩
theorem nameS_ne {z : Str} (h : nameS z = true) : tl z ≠ [] := fun e => by
  have := ((nameS_iff z).mp h).1.1
  have e2 : z.length = 0 := by rw [TL.len_tl, e]; rfl
  omega
theorem plain_name {z : Str} (h : nameS z = true) : plainW (tl z) := plain_let ((nameS_iff z).mp h).2.2 (nameS_ne h)
theorem plain_not : plainW (tl ("not" : Str)) := by refine ⟨?_, ?_, ?_, ?_⟩ <;> decide +kernel
theorem plain_never : plainW (tl ("never" : Str)) := by refine ⟨?_, ?_, ?_, ?_⟩ <;> decide +kernel
theorem items_ok {bs us : List Str} (hb : ∀ z ∈ bs, nameS z = true) (hu : ∀ z ∈ us, nameS z = true) : ∀ it ∈ itemsW bs us, itemOk it := fun it hi => by
  rcases List.mem_append.mp hi with k | k
  · obtain ⟨b, hm, rfl⟩ := List.mem_map.mp k; exact .inl ⟨b, rfl, plain_name (hb b hm)⟩
  · obtain ⟨u, hm, rfl⟩ := List.mem_map.mp k; exact .inr ⟨_, u, rfl, plain_not, plain_name (hu u hm)⟩
theorem tl_grS (bs us : List Str) : tl (grS bs us) = joinL [44, 32] ((itemsW bs us).map itT) := by
  unfold grS itemsW
  rw [TL.join_eq, TL.tl_join, show tl (", " : Str) = [44, 32] by decide +kernel]
  congr 1
  rw [List.map_append, List.map_append, List.map_map, List.map_map, List.map_map]
  congr 1
  refine List.map_congr_left fun u _ => ?_
  show tl (("not " : Str) ++ u) = tl ("not" : Str) ++ 32 :: tl u
  rw [TL.tl_append, show tl ("not " : Str) = tl ("not" : Str) ++ [32] by decide +kernel]; simp
def wordsOf (h : V) (bs us : List Str) : List Str := headT h :: (if bs ++ us = [] then [] else (if h = .non then [] else [("<-" : Str)]) ++ joinW (itemsW bs us))
theorem head_plain {h : V} (hh : (decide (h = .non) || isNm h) = true) : plainW (tl (headT h)) := by
  cases h with
  | str z => exact plain_name (z := z) (by simpa [isNm] using hh)
  | _ => exact plain_never
theorem words_rule {h : V} {bs us : List Str} (hh : (decide (h = .non) || isNm h) = true) (hb : ∀ z ∈ bs, nameS z = true) (hu : ∀ z ∈ us, nameS z = true) : wordsS (ruleText h bs us) = wordsOf h bs us := by
  refine wordsS_eq ?_
  unfold ruleText wordsOf
  have hp := head_plain hh
  by_cases e : bs ++ us = []
  · rw [if_pos e, if_pos e, wl_last hp]; rfl
  · rw [if_neg e, if_neg e, TL.tl_append, TL.tl_append, tl_grS]
    by_cases hn : h = .non
    · rw [if_pos hn, if_pos hn, show tl (" " : Str) = [32] by decide +kernel, List.append_assoc]
      show wordsL (tl (headT h) ++ 32 :: joinL [44, 32] ((itemsW bs us).map itT)) = _
      rw [wl_word hp, wl_items (items_ok hb hu)]; rfl
    · rw [if_neg hn, if_neg hn, show tl (" <- " : Str) = [32, 60, 45, 32] by decide +kernel, List.append_assoc]
      show wordsL (tl (headT h) ++ 32 :: 60 :: 45 :: 32 :: joinL [44, 32] ((itemsW bs us).map itT)) = _
      rw [wl_word hp, wl_arrow, wl_blank, wl_items (items_ok hb hu)]; rfl
/-! ### what words tell -/
def addW : List (List Str) → Str → List (List Str)
  | [], w => [[w]]
  | [p], w => if w = "," then [p, []] else [p ++ [w]]
  | p :: q :: r, w => p :: addW (q :: r) w
def partsW (ws : List Str) : List (List Str) := ws.foldl addW [[]]
theorem addW_ne : ∀ (ps : List (List Str)) (w : Str), addW ps w ≠ []
  | [], _ => by simp [addW]
  | [p], w => by unfold addW; split <;> simp
  | p :: q :: r, w => by simp [addW]
theorem addW_comma : ∀ ps : List (List Str), ps ≠ [] → addW ps ("," : Str) = ps ++ [[]]
  | [], h => absurd rfl h
  | [p], _ => by show (if (("," : Str) = ",") then [p, []] else [p ++ [("," : Str)]]) = _; rw [if_pos rfl]; rfl
  | p :: q :: r, _ => by show p :: addW (q :: r) ("," : Str) = _; rw [addW_comma (q :: r) (by simp)]; rfl
theorem addW_word {w : Str} (h : w ≠ ",") : ∀ (ps : List (List Str)) (p : List Str), addW (ps ++ [p]) w = ps ++ [p ++ [w]]
  | [], p => by show (if w = "," then [p, []] else [p ++ [w]]) = _; rw [if_neg h]; rfl
  | [a], p => by show a :: addW [p] w = _; show a :: (if w = "," then [p, []] else [p ++ [w]]) = _; rw [if_neg h]; rfl
  | a :: b :: r, p => by show a :: addW ((b :: r) ++ [p]) w = _; rw [addW_word h (b :: r) p]; rfl
theorem fold_item : ∀ {it : List Str}, (∀ w ∈ it, w ≠ ",") → ∀ (ps : List (List Str)) (p : List Str), it.foldl addW (ps ++ [p]) = ps ++ [p ++ it]
  | [], _, ps, p => by simp
  | w :: r, h, ps, p => by
    rw [List.foldl_cons, addW_word (h w (.head _)), fold_item (fun v hv => h v (.tail _ hv))]; simp
theorem fold_join : ∀ {its : List (List Str)}, its ≠ [] → (∀ it ∈ its, ∀ w ∈ it, w ≠ ",") → ∀ ps : List (List Str), (joinW its).foldl addW (ps ++ [[]]) = ps ++ its
  | [], h, _, _ => absurd rfl h
  | [p], _, h, ps => by show p.foldl addW (ps ++ [[]]) = _; rw [fold_item (h p (.head _))]; simp
  | p :: q :: r, _, h, ps => by
    show (p ++ (("," : Str) :: joinW (q :: r))).foldl addW (ps ++ [[]]) = _
    rw [List.foldl_append, fold_item (h p (.head _)), List.nil_append, List.foldl_cons, addW_comma _ (by simp), fold_join (its := q :: r) (by simp) (fun it hi => h it (.tail _ hi))]
    simp
theorem partsW_join {its : List (List Str)} (h : its ≠ []) (hc : ∀ it ∈ its, ∀ w ∈ it, w ≠ ",") : partsW (joinW its) = its := fold_join h hc []
/-- the body and the unless of items -/
def readIt : List (List Str) → Option (List Str × List Str)
  | [] => some ([], [])
  | [b] :: r => (readIt r).map fun p => (b :: p.1, p.2)
  | [n, u] :: r => if n = "not" then (readIt r).map fun p => (p.1, u :: p.2) else none
  | _ :: _ => none
theorem readIt_us : ∀ us : List Str, readIt (us.map fun u => [("not" : Str), u]) = some ([], us)
  | [] => rfl
  | u :: r => by
    show (if (("not" : Str) = "not") then (readIt (r.map fun u => [("not" : Str), u])).map (fun p => (p.1, u :: p.2)) else none) = _
    rw [if_pos rfl, readIt_us r]; rfl
theorem readIt_items : ∀ bs us : List Str, readIt (itemsW bs us) = some (bs, us)
  | [], us => readIt_us us
  | b :: r, us => by
    show (readIt (itemsW r us)).map (fun p => (b :: p.1, p.2)) = _
    rw [readIt_items r us]; rfl
def withW (h : V) (ws : List Str) : Option (V × List Str × List Str) :=
  match readIt (if ws = [] then [] else partsW ws) with
  | some (b, u) => if goodR h (some (b.map V.str)) (some (u.map V.str)) = true then some (h, b, u) else none
  | none => none
def ruleW : List Str → Option (V × List Str × List Str)
  | [] => none
  | w :: r => if w = "never" then withW .non r else
    match r with
    | [] => withW (.str w) []
    | a :: q => if a = "<-" ∧ q ≠ [] then withW (.str w) q else none
theorem name_ne {z y : Str} (h : nameS z = true) (hy : nameS y = false) : z ≠ y := fun e => by rw [e, hy] at h; cases h
theorem items_nc {bs us : List Str} (hb : ∀ z ∈ bs, nameS z = true) (hu : ∀ z ∈ us, nameS z = true) : ∀ it ∈ itemsW bs us, ∀ w ∈ it, w ≠ "," := fun it hi w hw => by
  have nc : nameS ("," : Str) = false := by decide +kernel
  rcases List.mem_append.mp hi with k | k
  · obtain ⟨b, hm, rfl⟩ := List.mem_map.mp k
    rw [List.mem_singleton] at hw; subst hw; exact name_ne (hb _ hm) nc
  · obtain ⟨u, hm, rfl⟩ := List.mem_map.mp k
    simp only [List.mem_cons, List.not_mem_nil, or_false] at hw
    rcases hw with rfl | rfl
    · decide +kernel
    · exact name_ne (hu _ hm) nc
theorem joinW_ne {its : List (List Str)} (h : its ≠ []) (hn : ∀ it ∈ its, it ≠ []) : joinW its ≠ [] := by
  match its, h with
  | [p], _ => exact hn p (.head _)
  | p :: q :: r, _ => show p ++ _ ≠ []; simp
theorem items_ne (bs us : List Str) : ∀ it ∈ itemsW bs us, it ≠ [] := fun it hi => by
  rcases List.mem_append.mp hi with k | k <;> (obtain ⟨_, _, rfl⟩ := List.mem_map.mp k; simp)
theorem withW_items {h : V} {bs us : List Str} (hg : goodR h (some (bs.map V.str)) (some (us.map V.str)) = true) (hb : ∀ z ∈ bs, nameS z = true) (hu : ∀ z ∈ us, nameS z = true) : withW h (joinW (itemsW bs us)) = some (h, bs, us) := by
  have e : readIt (if joinW (itemsW bs us) = [] then [] else partsW (joinW (itemsW bs us))) = some (bs, us) := by
    by_cases z : itemsW bs us = []
    · rw [z, show joinW ([] : List (List Str)) = [] from rfl, if_pos rfl]
      have := readIt_items bs us
      rwa [z] at this
    · rw [if_neg (joinW_ne z (items_ne bs us)), partsW_join z (items_nc hb hu), readIt_items]
  unfold withW
  rw [e]
  show (if _ then _ else _) = _
  rw [if_pos hg]
theorem ruleW_of {h : V} {bs us : List Str} (hg : goodR h (some (bs.map V.str)) (some (us.map V.str)) = true) (hb : ∀ z ∈ bs, nameS z = true) (hu : ∀ z ∈ us, nameS z = true) : ruleW (wordsOf h bs us) = some (h, bs, us) := by
  have key := withW_items hg hb hu
  have hh : (decide (h = .non) || isNm h) = true := by unfold goodR at hg; exact (Bool.and_eq_true _ _ ▸ hg).1
  have it0 : bs ++ us = [] → itemsW bs us = [] := fun e => by
    obtain ⟨rfl, rfl⟩ := List.append_eq_nil_iff.mp e; rfl
  have it1 : bs ++ us ≠ [] → itemsW bs us ≠ [] := fun e z => e (by
    obtain ⟨z1, z2⟩ := List.append_eq_nil_iff.mp z
    rw [List.map_eq_nil_iff.mp z1, List.map_eq_nil_iff.mp z2]; rfl)
  unfold wordsOf ruleW
  by_cases hn : h = .non
  · subst hn
    show (if (("never" : Str) = "never") then _ else _) = _
    rw [if_pos rfl]
    by_cases e : bs ++ us = []
    · rw [if_pos e]; rw [it0 e] at key; exact key
    · rw [if_neg e, if_pos rfl]; exact key
  · have hz : ∃ z, h = .str z ∧ nameS z = true := by
      cases h with
      | str z => exact ⟨z, rfl, by simpa [isNm] using hh⟩
      | non => exact absurd rfl hn
      | _ => simp [isNm] at hh
    obtain ⟨z, rfl, nz⟩ := hz
    show (if z = "never" then _ else _) = _
    rw [if_neg (name_ne nz (by decide +kernel))]
    by_cases e : bs ++ us = []
    · rw [if_pos e]; rw [it0 e] at key; exact key
    · rw [if_neg e, if_neg hn]
      show (if (("<-" : Str) = "<-" ∧ joinW (itemsW bs us) ≠ []) then _ else _) = _
      rw [if_pos ⟨rfl, joinW_ne (it1 e) (items_ne bs us)⟩]; exact key
theorem read_text {h : V} {bs us : List Str} (hg : goodR h (some (bs.map V.str)) (some (us.map V.str)) = true) (hb : ∀ z ∈ bs, nameS z = true) (hu : ∀ z ∈ us, nameS z = true) : ruleW (wordsS (ruleText h bs us)) = some (h, bs, us) := by
  have hh : (decide (h = .non) || isNm h) = true := by unfold goodR at hg; exact (Bool.and_eq_true _ _ ▸ hg).1
  rw [words_rule hh hb hu, ruleW_of hg hb hu]
end Gx

/-! steps over texts and lists -/
namespace Gx
open PySem PySem.Spec PyProof.Rows L2 Evl
section
variable {K : PySem.W.Frag} {σ : L2.St} {H : Hp} {Q : VK}
theorem g_join {a : Str} {p : Addr} {ys : List Str} (hp : SqL K H p (ys.map V.str) ∨ SqT K H p (ys.map V.str)) (hl : (ys.map (·.length)).sum + ys.length * a.length ≤ 90000) (h : Q (.str (Txt.join a ys)) H) : rJoin K (.str a) [.ref p] H Q :=
  ⟨a, p, ys, rfl, rfl, hp, by omega, h⟩
theorem g_tupS {p : Addr} {xs : List V} (hp : SqL K H p xs) (h : ∀ r H', H r = none → Ex H H' → H' r = some (.tup xs) → Q (.ref r) H') : rTupleS K [.ref p] H Q := ⟨p, xs, rfl, .inl ⟨hp, fun l hl => h l _ hl (Ex.new hl) upd_same⟩⟩
theorem tru_l {p : Addr} {xs : List V} (hp : SqL K H p xs) : TruV K (.ref p) H (!xs.isEmpty) := .inl ⟨xs, hp, rfl⟩
theorem tru_s {z : Str} (hz : z.length ≤ 100000) : TruV K (.str z) H (!decide (z = ("" : Str))) := by
  refine ⟨sz_of hz, ?_⟩
  by_cases e : z = ("" : Str)
  · subst e; rw [decide_eq_true rfl]; decide +kernel
  · rw [decide_eq_false e]
    have : z.length ≠ 0 := fun k => e (TL.ext_tl (by rw [(TL.len0_tl z).mp k]; decide +kernel))
    symm
    simp only [Bool.not_false, bne_iff_ne, ne_eq]; omega
theorem c_replS {z : Str} {n : Nat} {R : Str → Prop} (hl : z.length + (z.length + 1) * n ≤ 16777216) (h : R z) : ∃ x, V.str z = .str x ∧ x.length + (x.length + 1) * n ≤ 16777216 ∧ R x := ⟨z, rfl, hl, h⟩
theorem atI0 {α : Type} {x : α} {xs : List α} : atI (x :: xs) 0 = some x := atI_nat (j := 0) rfl
theorem atI1 {α : Type} {x y : α} {xs : List α} : atI (x :: y :: xs) 1 = some y := atI_nat (j := 1) rfl
theorem atI2 {α : Type} {x y z : α} {xs : List α} : atI (x :: y :: z :: xs) 2 = some z := atI_nat (j := 2) rfl
end
end Gx

/-! a dict known by a property alone; views that open it -/
namespace Gx
open PySem PySem.Spec PyProof.Rows L2 Evl
def isD (P : Program) (w : World) (p : Addr) (G : List (Key × V) → Prop) : Heap → Prop := fun h => ∃ kvs, G kvs ∧ ObjOk P w (fun _ => none) h p (.dK kvs)
def oD (P : Program) (w : World) (p : Addr) (G : List (Key × V) → Prop) : HO := .ext (isD P w p G)
/-- what may be opened and shut -/
def Opn (o : Option HO) : Prop := (∃ xs, o = some (.lst xs)) ∨ (∃ kvs, o = some (.dK kvs)) ∨ ∃ φ, o = some (.ext φ)
def Shd (A B : Hp) : Prop := ∀ b, A b = B b ∨ (Opn (A b) ∧ Opn (B b))
theorem Shd.refl (A : Hp) : Shd A A := fun _ => .inl rfl
theorem Shd.symm {A B : Hp} (s : Shd A B) : Shd B A := fun b => (s b).imp Eq.symm And.symm
theorem Shd.trans {A B C : Hp} (s : Shd A B) (t : Shd B C) : Shd A C := fun b => by
  rcases s b with e | ⟨h1, h2⟩
  · rw [e]; exact t b
  · rcases t b with e' | ⟨_, h4⟩
    · rw [← e']; exact .inr ⟨h1, h2⟩
    · exact .inr ⟨h1, h4⟩
theorem Opn.no {o : HO} (h : Opn (some o)) : (∃ xs, o = .lst xs) ∨ (∃ kvs, o = .dK kvs) ∨ ∃ φ, o = .ext φ := by
  rcases h with ⟨xs, h⟩ | ⟨xs, h⟩ | ⟨xs, h⟩ <;> cases h
  · exact .inl ⟨_, rfl⟩
  · exact .inr (.inl ⟨_, rfl⟩)
  · exact .inr (.inr ⟨_, rfl⟩)
theorem Shd.none {A B : Hp} (s : Shd A B) {b : Addr} (h : A b = none) : B b = none := by
  rcases s b with e | ⟨h1, _⟩
  · rw [← e]; exact h
  · rw [h] at h1; rcases h1 with ⟨_, h1⟩ | ⟨_, h1⟩ | ⟨_, h1⟩ <;> cases h1
theorem Shd.same {A B : Hp} (s : Shd A B) {b : Addr} {o : HO} (h : A b = some o) (n : ¬ Opn (some o)) : B b = some o := by
  rcases s b with e | ⟨h1, _⟩
  · rw [← e]; exact h
  · rw [h] at h1; exact absurd h1 n
theorem Shd.tup {A B : Hp} (s : Shd A B) {b : Addr} {xs : List V} (h : A b = some (.tup xs)) : B b = some (.tup xs) := s.same h fun k => by rcases k.no with ⟨_, k⟩ | ⟨_, k⟩ | ⟨_, k⟩ <;> cases k
theorem Shd.own {A B : Hp} (s : Shd A B) {b x : Addr} (h : A b = some (.own x)) : B b = some (.own x) := s.same h fun k => by rcases k.no with ⟨_, k⟩ | ⟨_, k⟩ | ⟨_, k⟩ <;> cases k
theorem Shd.frz {A B : Hp} (s : Shd A B) {b : Addr} {o : Obj} {u : HO} (h : A b = some (.frz o u)) : B b = some (.frz o u) := s.same h fun k => by rcases k.no with ⟨_, k⟩ | ⟨_, k⟩ | ⟨_, k⟩ <;> cases k
theorem Shd.tbl {A B : Hp} (s : Shd A B) {b : Addr} {ps : Array Value} (h : A b = some (.tbl ps)) : B b = some (.tbl ps) := s.same h fun k => by rcases k.no with ⟨_, k⟩ | ⟨_, k⟩ | ⟨_, k⟩ <;> cases k
theorem Shd.upd {A : Hp} {p : Addr} {o : HO} (h : Opn (A p)) (ho : Opn (some o)) : Shd A (upd A p o) := fun b => by
  by_cases e : b = p
  · subst e; refine .inr ⟨h, ?_⟩; rw [upd_same]; exact ho
  · exact .inl (upd_ne e).symm
section
variable {P : Program} {w : World} {K : PySem.W.Frag} {mg : Str → Option Value} {base : Heap}
theorem Un.shd {fs ex : List Addr} {A A' B B' : Hp} {h h' : Heap} (u : Un fs ex A B h h') (s : Shd A A') (t : Shd B B') : Un fs ex A' B' h h' where
  keep := fun b o e n hf hx => u.keep b o e (s.symm.none n) hf hx
  slot := fun b o e n hf hx => u.slot b o e (s.symm.none n) hf hx
  free := fun b o e n hx => t.none (u.free b o e (s.symm.none n) hx)
  there := u.there
  tups := fun b xs e => t.tup (u.tups b xs (s.symm.tup e))
  frzs := fun b o x e => t.frz (u.frzs b o x (s.symm.frz e))
  tbls := fun b ps e => by
    obtain ⟨m, e2⟩ := u.tbls b ps (s.symm.tbl e)
    exact ⟨m, t.tbl e2⟩
theorem HOk.swapD {A : Hp} {h : Heap} {p : Addr} {o : HO} (x : HOk P w A h) (s : Shd A (L2.upd A p o)) (new : ObjOk P w (L2.upd A p o) h p o) : HOk P w (L2.upd A p o) h := fun b u e => by
  by_cases hb : b = p
  · subst hb; rw [upd_same] at e; cases e; exact new
  · rw [upd_ne hb] at e
    exact (x b u e).stay (fun _ _ _ q => q) (fun c q => s.own q) (fun c xs q => s.tup q)
theorem dK_any {A B : Hp} {h h' : Heap} {p : Addr} {kvs : List (Key × V)} (x : ObjOk P w A h p (.dK kvs)) (k : ∀ o, h.get? p = some o → h'.get? p = some o) : ObjOk P w B h' p (.dK kvs) := by
  obtain ⟨z, y, vs, r, ob, es, ep, e, c⟩ := x
  exact ⟨z, y, vs, r, ob, es, ep, k _ e, c⟩
theorem isD_mono {p : Addr} {G : List (Key × V) → Prop} : ∀ h1 h2 : Heap, isD P w p G h1 → (∀ o, h1.get? p = some o → h2.get? p = some o) → isD P w p G h2 := fun h1 h2 ⟨xs, g, x⟩ k => ⟨xs, g, dK_any x k⟩
theorem HOk.openD {A : Hp} {h : Heap} {p : Addr} {G : List (Key × V) → Prop} (x : HOk P w A h) (e : A p = some (oD P w p G)) : ∃ kvs, G kvs ∧ HOk P w (L2.upd A p (.dK kvs)) h ∧ Shd A (L2.upd A p (.dK kvs)) := by
  obtain ⟨⟨kvs, g, q⟩, _, _⟩ := (show ObjOk P w A h p (oD P w p G) from x p _ e)
  have s : Shd A (L2.upd A p (.dK kvs)) := Shd.upd (.inr (.inr ⟨_, e⟩)) (.inr (.inl ⟨_, rfl⟩))
  exact ⟨kvs, g, HOk.swapD x s (dK_any q fun _ z => z), s⟩
theorem HOk.shutD {A : Hp} {h : Heap} {p : Addr} {G : List (Key × V) → Prop} {kvs : List (Key × V)} (x : HOk P w A h) (e : A p = some (.dK kvs)) (g : G kvs) : HOk P w (L2.upd A p (oD P w p G)) h ∧ Shd A (L2.upd A p (oD P w p G)) := by
  have q : ObjOk P w A h p (.dK kvs) := x p _ e
  have s : Shd A (L2.upd A p (oD P w p G)) := Shd.upd (.inr (.inl ⟨_, e⟩)) (.inr (.inr ⟨_, rfl⟩))
  refine ⟨HOk.swapD x s ⟨⟨kvs, g, dK_any q fun _ z => z⟩, ?_, isD_mono⟩, s⟩
  obtain ⟨z, y, vs, r, ob, es, ep, e, c⟩ := q
  exact ⟨_, e⟩
/-- a promise over another view of the heap -/
theorem FnOk.viewD {k : Nat} {f : Addr} {fd : FuncData} {ps : List Str} {sp sp' : Sp} (F : FnOk P w K mg base CX0 k f fd ps sp) (len : ∀ vs H Q E, sp' vs H Q E → vs.length = ps.length)
    (h : ∀ vs H Q E, sp' vs H Q E → ∀ hp : Heap, HOk P w H hp → ∃ H0, HOk P w H0 hp ∧ Shd H H0 ∧ sp vs H0 (fun v H1 => ∀ hp' : Heap, HOk P w H1 hp' → ∃ H2, HOk P w H2 hp' ∧ Shd H1 H2 ∧ Q v H2) E) : FnOk P w K mg base CX0 k f fd ps sp' := by
  refine ⟨len, fun A outer s H args us vs Q E hr he hb hv hs => ?_⟩
  obtain ⟨H0, ok0, s0, q0⟩ := h vs H Q E hs s.heap he.hok
  refine codeAny_mono (F.run A outer s H0 args us vs _ E hr ⟨he.frames, he.mod, fun b o e => ⟨(he.bs b o e).1, s0.none (he.bs b o e).2⟩, he.bsz, he.funs, fun b hb => s0.none (he.frf b hb), ok0, he.bare⟩ hb hv q0) fun r s' hq => ?_
  cases r with
  | error e => exact False.elim hq
  | ok fl =>
    cases fl with
    | ret u =>
      obtain ⟨v, H1, os, bare, un, hok, r, q⟩ := hq
      obtain ⟨H2, ok2, s2, q2⟩ := q _ hok
      exact ⟨v, H2, os, bare, Un.shd un s0.symm s2, ok2, r, q2⟩
    | next => exact False.elim hq
    | brk => exact False.elim hq
    | cont => exact False.elim hq
end
/-! ### the draws of stage 2 and 3: a dict of numbers -/
def kS (s : Str) : Key := Sum.inr s
def sttL (c : Addr) (a r t m : Int) : List (Key × V) := [(kS "cells", .ref c), (kS "at", .int a), (kS "rest", .int r), (kS "turn", .int t), (kS "more", .int m)]
def Gst (c : Addr) (kvs : List (Key × V)) : Prop := ∃ a r t m : Int, kvs = sttL c a r t m ∧ 0 ≤ a ∧ 0 ≤ r ∧ 0 ≤ t ∧ 0 ≤ m ∧ m < 2147483647
/-- a list that nothing changes -/
def SqF (K : PySem.W.Frag) (H : Hp) (p : Addr) (xs : List V) : Prop := (∃ o, H p = some (.frz o (.lst xs))) ∨ (∀ H' : Hp, SqL K H' p xs)
theorem SqF.l {K : PySem.W.Frag} {H : Hp} {p : Addr} {xs : List V} (h : SqF K H p xs) : SqL K H p xs := h.elim (fun ⟨o, h⟩ => .inl (.inr ⟨o, h⟩)) fun h => h H
theorem SqF.ex {K : PySem.W.Frag} {H H' : Hp} {p : Addr} {xs : List V} (e : Ex H H') (h : SqF K H p xs) : SqF K H' p xs := h.imp (fun ⟨o, h⟩ => ⟨o, e _ _ h⟩) id
theorem SqF.exb {K : PySem.W.Frag} {H H' : Hp} {p u : Addr} {xs ys : List V} (e : Exb u H H') (hu : H u = some (.lst ys)) (h : SqF K H p xs) : SqF K H' p xs := h.imp (fun ⟨o, h⟩ => ⟨o, e _ _ (fun k => by rw [k, hu] at h; cases h) h⟩) id
theorem SqF.upd {K : PySem.W.Frag} {H : Hp} {p st : Addr} {xs : List V} {o v : HO} (hs : H st = some o) (ho : ∀ ob x, o ≠ .frz ob x) (h : SqF K H p xs) : SqF K (L2.upd H st v) p xs := h.imp (fun ⟨ob, h⟩ => ⟨ob, by rw [upd_ne (fun k => by rw [k, hs] at h; cases h; exact ho _ _ rfl)]; exact h⟩) id
theorem SqF.of {K : PySem.W.Frag} {H : Hp} {p : Addr} {xs : List V} (only : Only H) (h : SqL K H p xs) : SqF K H p xs := by
  rcases h with (h | ⟨o, h⟩) | h
  · rcases only p with k | ⟨ob, ys, k⟩
    · rw [k] at h; cases h
    · rw [k] at h; cases h
  · exact .inl ⟨o, h⟩
  · exact .inr fun H' => .inr h
/-- the state of the draws at st; its cells are a list of ints -/
def Stt (P : Program) (w : World) (K : PySem.W.Frag) (H : Hp) (st : Addr) : Prop := ∃ (c : Addr) (ns : List Int), H st = some (oD P w st (Gst c)) ∧ SqF K H c (ns.map V.int) ∧ ns.length ≤ 63
theorem Stt.ex {P : Program} {w : World} {K : PySem.W.Frag} {H H' : Hp} {st : Addr} (e : Ex H H') (h : Stt P w K H st) : Stt P w K H' st := by
  obtain ⟨c, ns, h1, h2, h3⟩ := h
  exact ⟨c, ns, e _ _ h1, h2.ex e, h3⟩
theorem Stt.exb {P : Program} {w : World} {K : PySem.W.Frag} {H H' : Hp} {st p : Addr} {xs : List V} (e : Exb p H H') (hp : H p = some (.lst xs)) (h : Stt P w K H st) : Stt P w K H' st := by
  obtain ⟨c, ns, h1, h2, h3⟩ := h
  exact ⟨c, ns, e _ _ (fun k => by rw [k, hp] at h1; cases h1) h1, h2.exb e hp, h3⟩
def sp_tak0 (K : PySem.W.Frag) : Sp := fun vs H Q _ => ∃ (st c : Addr) (many a r t m : Int) (ns : List Int), vs = [.ref st, .int many] ∧ H st = some (.dK (sttL c a r t m)) ∧ SqL K H c (ns.map V.int) ∧ ns.length ≤ 63 ∧ 0 ≤ a ∧ 0 ≤ r ∧ 0 ≤ t ∧ 0 ≤ m ∧ m < 2147483647 ∧ 0 < many ∧ many < 2 ^ 64 ∧
  ∀ n H1 a' r' t' m', 0 ≤ n → n < many → H1 st = some (.dK (sttL c a' r' t' m')) → 0 ≤ a' → 0 ≤ r' → 0 ≤ t' → 0 ≤ m' → m' < 2147483647 → Exb st H H1 → Q (.int n) H1
def sp_tak (P : Program) (w : World) (K : PySem.W.Frag) : Sp := fun vs H Q _ => ∃ (st : Addr) (many : Int), vs = [.ref st, .int many] ∧ Stt P w K H st ∧ 0 < many ∧ many < 2 ^ 64 ∧ ∀ n H', 0 ≤ n → n < many → Ex H H' → Q (.int n) H'
theorem sqL_open {K : PySem.W.Frag} {H : Hp} {p c : Addr} {o u : HO} {xs : List V} (e : H p = some o) (ho : ∀ xs, o ≠ .lst xs) (hf : ∀ ob x, o ≠ .frz ob x) (h : SqL K H c xs) : SqL K (L2.upd H p u) c xs := by
  have key : ∀ v, H c = some v → (∃ xs, v = .lst xs) ∨ (∃ ob x, v = .frz ob x) → L2.upd H p u c = some v := fun v hv hk => by
    by_cases k : c = p
    · subst k; rw [e] at hv; cases hv
      rcases hk with ⟨xs, rfl⟩ | ⟨ob, x, rfl⟩
      · exact absurd rfl (ho xs)
      · exact absurd rfl (hf ob x)
    · rw [upd_ne k]; exact hv
  rcases h with (h | ⟨ob, h⟩) | h
  · exact .inl (.inl (key _ h (.inl ⟨_, rfl⟩)))
  · exact .inl (.inr ⟨ob, key _ h (.inr ⟨_, _, rfl⟩)⟩)
  · exact .inr h
theorem tak_view {P : Program} {w : World} {K : PySem.W.Frag} {mg : Str → Option Value} {base : Heap} {k : Nat} {f : Addr} {fd : FuncData} {ps : List Str} (F : FnOk P w K mg base CX0 k f fd ps (sp_tak0 K)) (hl : ps.length = 2) : FnOk P w K mg base CX0 k f fd ps (sp_tak P w K) := by
  refine FnOk.viewD F (fun vs H Q E ⟨d, size, h, _⟩ => by rw [h, hl]; rfl) (fun vs H Q E ⟨st, many, hv, ⟨c, ns, hd, hc, hn⟩, s0, s1, q⟩ hp ok => ?_)
  obtain ⟨kvs, ⟨a, r, t, m, rfl, a0, r0, t0, m0, m1⟩, ok1, sh1⟩ := HOk.openD ok hd
  refine ⟨_, ok1, sh1, st, c, many, a, r, t, m, ns, hv, upd_same, (SqF.upd hd (fun _ _ z => by cases z) hc).l, hn, a0, r0, t0, m0, m1, s0, s1, fun n H1 a' r' t' m' n0 n1 e1 a0' r0' t0' m0' m1' ex hp' ok' => ?_⟩
  obtain ⟨ok3, sh3⟩ := HOk.shutD (G := Gst c) ok' e1 ⟨a', r', t', m', rfl, a0', r0', t0', m0', m1'⟩
  refine ⟨_, ok3, sh3, q n _ n0 n1 fun x o ho => ?_⟩
  by_cases h1 : x = st
  · subst h1; rw [hd] at ho; cases ho; exact upd_same
  · rw [upd_ne h1]
    refine ex x o h1 ?_
    rw [upd_ne h1]; exact ho
def sp_beg0 (K : PySem.W.Frag) : Sp := fun vs H Q _ => ∃ (c : Addr) (ns : List Int), vs = [.ref c] ∧ SqL K H c (ns.map V.int) ∧ ns.length ≤ 63 ∧ ∀ st H1, H st = none → Ex H H1 → H1 st = some (.dK (sttL c 0 0 0 17)) → Q (.ref st) H1
def sp_beg (P : Program) (w : World) (K : PySem.W.Frag) : Sp := fun vs H Q _ => ∃ (c : Addr) (ns : List Int), vs = [.ref c] ∧ SqF K H c (ns.map V.int) ∧ ns.length ≤ 63 ∧ ∀ st H1, H st = none → Stt P w K H1 st → Ex H H1 → Q (.ref st) H1
theorem beg_view {P : Program} {w : World} {K : PySem.W.Frag} {mg : Str → Option Value} {base : Heap} {k : Nat} {f : Addr} {fd : FuncData} {ps : List Str} (F : FnOk P w K mg base CX0 k f fd ps (sp_beg0 K)) (hl : ps.length = 1) : FnOk P w K mg base CX0 k f fd ps (sp_beg P w K) := by
  refine FnOk.viewD F (fun vs H Q E ⟨d, ns, h, _⟩ => by rw [h, hl]; rfl) (fun vs H Q E ⟨c, ns, hv, hs, hn, q⟩ hp ok => ?_)
  refine ⟨H, ok, Shd.refl H, c, ns, hv, hs.l, hn, fun st H1 nst ex e1 hp' ok' => ?_⟩
  obtain ⟨ok3, sh3⟩ := HOk.shutD (G := Gst c) ok' e1 ⟨0, 0, 0, 17, rfl, by omega, by omega, by omega, by omega, by omega⟩
  exact ⟨_, ok3, sh3, q st _ nst ⟨c, ns, upd_same, SqF.upd e1 (fun _ _ z => by cases z) (hs.ex ex), hn⟩ (Ex.mut ex nst)⟩
end Gx

/-! steps: dicts, stars, sorted, dict comprehensions, lists that are popped -/
namespace Gx
open PySem PySem.Spec PyProof.Rows L2 Evl
theorem room1 {k : Nat} {A : Around} (r : Room k A) : A.units + 1 < cLine := by have := r.un; omega
def rListDk : List V → Hp → VK → Prop := fun xs H Q => ∃ (a : Addr) (kvs : List (Key × V)), xs = [.ref a] ∧ Rd H a (.dK kvs) ∧ ∀ p, H p = none → Q (.ref p) (upd H p (.lst (kvs.map fun kv => kV kv.1)))
theorem call_listDk {X : Cx} (hc : X.calm = true) : CallR X (.type "list") rListDk := call_listD hc
def rSortedDk : List V → Hp → VK → Prop := fun xs H Q => ∃ (a : Addr) (kvs : List (Key × V)) (ks : List Str), xs = [.ref a] ∧ Rd H a (.dK kvs) ∧ kvs.map (·.1) = ks.map Sum.inr ∧ ks.length < 64 ∧
    ∀ ys p, ys.Perm ks → sortedS ys = true → H p = none → Q (.ref p) (upd H p (.lst (ys.map V.str)))
def gSorted (K : PySem.W.Frag) : List V → Hp → VK → Prop := cOr rSortedDk (rSortedS K)
theorem call_gSorted {X : Cx} (hc : X.calm = true) : CallR X (.builtin "sorted") (gSorted X.K) := callOr (call_sortedD hc) cr_sortedS
def rMin2 : List V → Hp → VK → Prop := fun xs H Q => ∃ i j, xs = [.int i, .int j] ∧ Q (.int (if j < i then j else i)) H
def rDictP (K : PySem.W.Frag) : List V → Hp → VK → Prop := fun xs H Q => ∃ (a : Addr) (ps : List Addr) (kvs : List (Key × V)), xs = [.ref a] ∧ SqL K H a (ps.map V.ref) ∧ Paired (fun p kv => SqT K H p [kV kv.1, kv.2]) ps kvs ∧
    ∀ p, H p = none → Q (.ref p) (upd H p (.dK (mergeK [] kvs)))
theorem call_dictP1 {X : Cx} (hc : X.calm = true) : CallR X (.type "dict") (rDictP X.K) := call_dictP hc
section
variable {K : PySem.W.Frag} {σ : L2.St} {H : Hp} {Q : VK} {D : Ends} {ta tb tv : TE} {x y v : V}
/-- the entry of a text key -/
def DG (Q : VK) (x y : V) (H : Hp) : Prop := ∃ a v, x = .ref a ∧ DGet H a y (some v) ∧ Q v H
theorem c_dget (h : ta σ H fun x H1 => tb σ H1 fun y H2 => DG Q x y H2) : tDGet ta tb σ H Q := h
theorem g_dget {a : Addr} {kvs : List (Key × V)} {z : Str} (ha : H a = some (.dK kvs)) (hv : valV kvs (kS z) = some v) (h : Q v H) : DG Q (.ref a) (.str z) H := ⟨a, v, rfl, by rw [← hv]; exact DGet.k (k := kS z) ha, h⟩
def DIk (b : Bool) (Q : VK) (y x : V) (H : Hp) : Prop := ∃ a o, x = .ref a ∧ DGet H a y o ∧ Q (.bl (if b then o.isSome else !o.isSome)) H
theorem c_din (h : ta σ H fun y H1 => tb σ H1 fun x H2 => DIk true Q y x H2) : tDIn ta tb σ H Q := h
theorem c_dni (h : ta σ H fun y H1 => tb σ H1 fun x H2 => DIk false Q y x H2) : tDNotIn ta tb σ H Q := h
theorem g_din {a : Addr} {kvs : List (Key × V)} {z : Str} (ha : H a = some (.dK kvs)) (h : Q (.bl (valV kvs (kS z)).isSome) H) : DIk true Q (.str z) (.ref a) H := ⟨a, _, rfl, DGet.k (k := kS z) ha, h⟩
theorem g_dni {a : Addr} {kvs : List (Key × V)} {z : Str} (ha : H a = some (.dK kvs)) (h : Q (.bl (!(valV kvs (kS z)).isSome)) H) : DIk false Q (.str z) (.ref a) H := ⟨a, _, rfl, DGet.k (k := kS z) ha, h⟩
def DPt (D : Ends) (σ : L2.St) (v x y : V) (H : Hp) : Prop := ∃ a H4, x = .ref a ∧ DPut H a y v H4 ∧ D.nx σ H4
theorem c_dput (h : tv σ H fun v H1 => ta σ H1 fun x H2 => tb σ H2 fun y H3 => DPt D σ v x y H3) : sDPut ta tb tv D σ H := h
theorem g_dput {a : Addr} {kvs : List (Key × V)} {z : Str} (ha : H a = some (.dK kvs)) (hl : kvs.length < 100000) (h : ∀ H', Exb a H H' → H' a = some (.dK (putK kvs (kS z) v)) → D.nx σ H') : DPt D σ v (.ref a) (.str z) H :=
  ⟨a, _, rfl, DPut.k (k := kS z) ha (sz_lt hl), h _ Exb.upd upd_same⟩
def StK (K : PySem.W.Frag) (tr : TA) (σ : L2.St) (QL : List V → Hp → Prop) (x : V) (H1 : Hp) : Prop := ∃ p xs, x = V.ref p ∧ (SqT K H1 p xs ∨ SqL K H1 p xs) ∧ tr σ H1 fun ys H2 => QL (xs ++ ys) H2
theorem c_star {tr : TA} {QL : List V → Hp → Prop} (h : ta σ H fun x H1 => StK K tr σ QL x H1) : StX.tStar K ta tr σ H QL := h
theorem g_star {tr : TA} {QL : List V → Hp → Prop} {p : Addr} {xs : List V} (hp : SqT K H p xs ∨ SqL K H p xs) (h : tr σ H fun ys H2 => QL (xs ++ ys) H2) : StK K tr σ QL (.ref p) H := ⟨p, xs, rfl, hp, h⟩
def WhK (c : TT) (tb : TS) (D : Ends) (σ : L2.St) (H : Hp) : Prop := ∃ W : Nat → L2.St → Hp → Prop, (∃ m, W m σ H) ∧ ∀ m σ H, W m σ H →
  c σ H fun b H1 => if b = true then ∃ N : L2.St → Hp → Prop, (∀ σ' H', N σ' H' → ∃ m', m' < m ∧ W m' σ' H') ∧ tb { D with nx := N, ct := N, bk := D.nx } σ H1 else D.nx σ H1
theorem c_while {c : TT} {tb : TS} (h : WhK c tb D σ H) : tWhile c tb D σ H := h
/-- a while by a word and a measure -/
theorem g_while {c : TT} {tb : TS} (Pv : Nat → L2.St → Hp → Prop) {m0 : Nat} (h0 : Pv m0 σ H)
    (hs : ∀ m σ H, Pv m σ H → c σ H fun b H1 => if b = true then tb { D with nx := fun σ' H' => ∃ m', m' < m ∧ Pv m' σ' H', ct := fun σ' H' => ∃ m', m' < m ∧ Pv m' σ' H', bk := D.nx } σ H1 else D.nx σ H1)
    (mono : ∀ σ H Q Q', (∀ b H1, Q b H1 → Q' b H1) → c σ H Q → c σ H Q') : WhK c tb D σ H := by
  refine ⟨Pv, ⟨m0, h0⟩, fun m σ H p => mono σ H _ _ (fun b H1 q => ?_) (hs m σ H p)⟩
  cases b with
  | true => exact ⟨_, fun σ' H' h => h, q⟩
  | false => exact q
theorem g_min {i j : Int} (h : Q (.int (if j < i then j else i)) H) : rMin2 [.int i, .int j] H Q := ⟨i, j, rfl, h⟩
theorem g_sortL {p : Addr} {ss : List Str} (hp : SqL K H p (ss.map V.str)) (hl : ss.length < 64) (h : ∀ ys r H', ys.Perm ss → sortedS ys = true → H r = none → Ex H H' → H' r = some (.lst (ys.map V.str)) → Q (.ref r) H') : gSorted K [.ref p] H Q :=
  .inr ⟨p, ss, rfl, hp, hl, fun ys r h1 h2 nr => h ys r _ h1 h2 nr (Ex.new nr) upd_same⟩
theorem g_sortD {a : Addr} {kvs : List (Key × V)} {ks : List Str} (ha : H a = some (.dK kvs)) (hk : kvs.map (·.1) = ks.map Sum.inr) (hl : ks.length < 64) (h : ∀ ys r H', ys.Perm ks → sortedS ys = true → H r = none → Ex H H' → H' r = some (.lst (ys.map V.str)) → Q (.ref r) H') : gSorted K [.ref a] H Q :=
  .inl ⟨a, kvs, ks, rfl, .inl ha, hk, hl, fun ys r h1 h2 nr => h ys r _ h1 h2 nr (Ex.new nr) upd_same⟩
theorem g_popAt {p : Addr} {xs : List V} {i : Int} {k : Nat} (hp : H p = some (.lst xs)) (hi : i = (k : Int)) (hk : xs[k]? = some y) (hl : xs.length ≤ 100000) (h : ∀ H', Exb p H H' → H' p = some (.lst (xs.eraseIdx k)) → Q y H') : rPopAt (.ref p) [.int i] H Q := by
  subst hi
  have hlt : k < xs.length := (List.getElem?_eq_some_iff.mp hk).1
  refine ⟨p, xs, k, k, y, rfl, rfl, hp, by omega, by omega, ?_, hk, h _ Exb.upd upd_same⟩
  unfold seqIndex?
  simp only [Int.natCast_nonneg]
  have h1 : ¬ ((k : Int) < 0) := by omega
  simp [h1, hlt]
end
end Gx

/-! name = {k: v for ..} on one line -/
namespace Gx
open PySem PySem.Spec PyProof.Rows L2 Evl
theorem sw_trueD {kx vx : Expr} {gs : List Comprehension} {scope : Scope} {pos py : Pos} {y : Str} {l : Nat} {env : Env} (hk : env.scope.kind = .function) (hy : env.scope.names.lookup y = some .local) (hl : (py.line == pos.line) = true)
    (ha : (scope.names.any fun (n, k) => n == y && (k == .local || k == .cell)) = false) : swapsWith (.DictComp kx vx gs scope pos) (some (.Name y py)) l env = pure true := by
  have ky : env.kindOf y = some .local := hy
  have hb : env.blockKind = .function := by unfold Env.blockKind; rw [hk]; rfl
  unfold swapsWith
  simp only [hb, ky, ha, Expr.pos, hl]
  rfl
section
variable {X : Cx}
theorem ps_setDc {i : Nat} {y : Str} {py : Pos} {kx vx tg iter : Expr} {ifs : List Expr} {scope : Scope} {own : List (Str × Nat)} {pos spos : Pos} {wi : TI} {g : TG} {tt : TT} {tk tv : TE} (hc : X.calm = true) (hN : X.N.Nodup) (hy : X.N[i]? = some y) (hyl : X.env.scope.names.lookup y = some .local)
    (hsw : swapsWith (.DictComp kx vx [⟨tg, iter, ifs, 0⟩] scope pos) (some (.Name y py)) spos.line X.env = pure true) (hi : PI X tg iter wi) (ok : BlkOk X.N X.env.scope scope own)
    (hg : ∀ (s : Shared) (H : Hp) (C : Addr) (cl : List (Str × Addr)) (fp : List Addr), PG (X.blk s H scope (compEnvC scope cl C X.env) fp) tg g) (ht : ∀ (s : Shared) (H : Hp) (C : Addr) (cl : List (Str × Addr)) (fp : List Addr), PTs (X.blk s H scope (compEnvC scope cl C X.env) fp) ifs tt)
    (hk : ∀ (s : Shared) (H : Hp) (C : Addr) (cl : List (Str × Addr)) (fp : List Addr), PE (X.blk s H scope (compEnvC scope cl C X.env) fp) kx tk)
    (he : ∀ (s : Shared) (H : Hp) (C : Addr) (cl : List (Str × Addr)) (fp : List Addr), PE (X.blk s H scope (compEnvC scope cl C X.env) fp) vx tv) (hs : ∀ x, foldedSetIterable iter X.env x = pure x := by intro _; rfl) :
    PS X (.Assign [.Name y py] (.DictComp kx vx [⟨tg, iter, ifs, 0⟩] scope pos) spos) (tAsg (tDc wi g tt tk tv (own.map (·.2))) (gName i)) := by
  refine ⟨fun pins s σ H D I h => ?_⟩
  rw [exec_Assign_Name_used _ _ _ _ hsw]
  refine wpAny_bind (wpAny_standAt (wpAny_bind ?_))
  show wpAny _ X.A (do let _ ← comprehension (.DictComp kx vx [⟨tg, iter, ifs, 0⟩] scope pos) scope X.env (firstIterPos [⟨tg, iter, ifs, 0⟩] pos) newDict false (eval iter X.env) (some (assign (.Name y py) X.env))) _ _ s
  have h : tDc wi g tt tk tv (own.map (·.2)) σ H (fun x H1 => gName i x σ H1 D.nx) := h
  refine wpAny_bind (thn (dc_core (Qf := fun _ s' => SP X pins D .next s') hc hN I hi ok hg ht hk he hs h fun L C s' m H' I' q hn f => ?_) fun _ s' hq => wpAny_pure (wpAny_pure hq))
  show wpAny _ _ (assign (.Name y py) X.env (.ref L)) _ _ _
  refine wpAny_assign_Name (store_ok2 (v := V.ref L) I' hN hy (.inl hyl) rfl (fun s2 I2 ⟨a, sb, ha⟩ => ?_) (.inr hyl))
  obtain ⟨f0, f1, f2, f3, f4, f5⟩ := f
  have haC : C ≠ a := by
    rcases ha with z | z
    · rw [z]; exact f1
    · exact fun e => f4 y a z e.symm
  refine ⟨m, hn.sameBut sb haC, fun h3 sb3 => ?_⟩
  exact ⟨_, H', I2.turned (t' := s2.toks) (fun b o hb e => (sb3.2 b hb).trans e) f0 f1 f3 f4 f5, q⟩
end
end Gx

/-! dicts by texts; what follows from plain rules, round by round -/
namespace Gx
open PySem PySem.Spec PyProof.Rows L2 Evl
/-! ### dicts by texts -/
abbrev TD := List (Str × V)
def dkv (F : TD) : List (Key × V) := F.map fun e => (kS e.1, e.2)
def keysF (F : TD) : List Str := F.map (·.1)
def look : TD → Str → Option V
  | [], _ => none
  | e :: r, z => if e.1 = z then some e.2 else look r z
def putF1 : TD → Str → V → TD
  | [], z, v => [(z, v)]
  | e :: r, z, v => if e.1 = z then (e.1, v) :: r else e :: putF1 r z v
theorem kS_inj {a b : Str} : kS a = kS b ↔ a = b := ⟨fun h => Sum.inr.inj h, fun h => by rw [h]⟩
theorem valV_dkv : ∀ (F : TD) (z : Str), valV (dkv F) (kS z) = look F z
  | [], _ => rfl
  | e :: r, z => by
    by_cases h : e.1 = z
    · rw [show dkv (e :: r) = (kS e.1, e.2) :: dkv r from rfl, valV_pos (p := (kS e.1, e.2)) (by rw [h])]
      show _ = if e.1 = z then some e.2 else look r z
      rw [if_pos h]
    · rw [show dkv (e :: r) = (kS e.1, e.2) :: dkv r from rfl, valV_neg (p := (kS e.1, e.2)) (fun k => h (kS_inj.mp k)), valV_dkv r z]
      show _ = if e.1 = z then some e.2 else look r z
      rw [if_neg h]
theorem look_none : ∀ {F : TD} {z : Str}, look F z = none ↔ z ∉ keysF F
  | [], _ => by simp [look, keysF]
  | e :: r, z => by
    by_cases h : e.1 = z
    · simp [look, keysF, h]
    · have ih := look_none (F := r) (z := z)
      simp only [look, keysF, if_neg h, List.map_cons, List.mem_cons, not_or] at ih ⊢
      rw [ih]
      exact ⟨fun k => ⟨fun q => h q.symm, k⟩, fun k => k.2⟩
theorem look_some {F : TD} {z : Str} : (look F z).isSome = decide (z ∈ keysF F) := by
  cases h : look F z with
  | none => rw [decide_eq_false (look_none.mp h)]; rfl
  | some v => rw [decide_eq_true (Classical.byContradiction fun k => by rw [look_none.mpr k] at h; cases h)]; rfl
theorem putF1_new : ∀ {F : TD} {z : Str} {v : V}, z ∉ keysF F → putF1 F z v = F ++ [(z, v)]
  | [], _, _, _ => rfl
  | e :: r, z, v, h => by
    simp only [keysF, List.map_cons, List.mem_cons, not_or] at h
    show (if e.1 = z then _ else _) = _
    rw [if_neg (fun k => h.1 k.symm), putF1_new (F := r) h.2]; rfl
theorem keys_put : ∀ (F : TD) (z : Str) (v : V), keysF (putF1 F z v) = if z ∈ keysF F then keysF F else keysF F ++ [z]
  | [], _, _ => rfl
  | e :: r, z, v => by
    by_cases h : e.1 = z
    · rw [if_pos (by simp [keysF, h])]; simp [putF1, keysF, h]
    · have ih := keys_put r z v
      have e1 : putF1 (e :: r) z v = e :: putF1 r z v := if_neg h
      rw [e1, show keysF (e :: putF1 r z v) = e.1 :: keysF (putF1 r z v) from rfl, ih, show keysF (e :: r) = e.1 :: keysF r from rfl]
      by_cases k : z ∈ keysF r
      · rw [if_pos k, if_pos (List.mem_cons_of_mem _ k)]
      · rw [if_neg k, if_neg (fun m => (List.mem_cons.mp m).elim (fun q => h q.symm) k)]; rfl
theorem putK_dkv : ∀ (F : TD) (z : Str) (v : V), (keysF F).Nodup → putK (dkv F) (kS z) v = dkv (putF1 F z v) := by
  intro F z v nd
  by_cases h : z ∈ keysF F
  · have key : ∀ {F : TD}, z ∈ keysF F → (keysF F).Nodup → (dkv F).map (fun kv => if kv.1 = kS z then (kv.1, v) else kv) = dkv (putF1 F z v) := by
      intro F
      induction F with
      | nil => intro h _; simp [keysF] at h
      | cons e r ih =>
        intro h nd
        have nd' : e.1 ∉ keysF r ∧ (keysF r).Nodup := List.nodup_cons.mp nd
        by_cases k : e.1 = z
        · have hn : z ∉ keysF r := k ▸ nd'.1
          have e1 : putF1 (e :: r) z v = (e.1, v) :: r := if_pos k
          rw [e1]
          show (if kS e.1 = kS z then (kS e.1, v) else (kS e.1, e.2)) :: (dkv r).map _ = (kS e.1, v) :: dkv r
          rw [if_pos (by rw [k])]
          congr 1
          have : ∀ kv ∈ dkv r, (fun kv : Key × V => if kv.1 = kS z then (kv.1, v) else kv) kv = id kv := fun kv hkv => by
            obtain ⟨e', he', rfl⟩ := List.mem_map.mp hkv
            show (if kS e'.1 = kS z then _ else _) = _
            rw [if_neg (fun q => hn (by rw [← kS_inj.mp q]; exact List.mem_map.mpr ⟨e', he', rfl⟩))]; rfl
          rw [List.map_congr_left this, List.map_id]
        · have e1 : putF1 (e :: r) z v = e :: putF1 r z v := if_neg k
          rw [e1]
          show (if kS e.1 = kS z then (kS e.1, v) else (kS e.1, e.2)) :: (dkv r).map _ = (kS e.1, e.2) :: dkv (putF1 r z v)
          rw [if_neg (fun q => k (kS_inj.mp q)), ih (by simpa [keysF, Ne.symm k] using h) nd'.2]
    have hs : (dkv F).any (fun kv => decide (kv.1 = kS z)) = true := by
      rw [valV_any, valV_dkv, look_some, decide_eq_true h]
    unfold putK
    rw [if_pos hs]
    exact key h nd
  · rw [putK_new v (by rw [valV_dkv]; exact look_none.mpr h), putF1_new h]
    unfold dkv
    rw [List.map_append]; rfl
theorem nodup_put {F : TD} {z : Str} {v : V} (nd : (keysF F).Nodup) : (keysF (putF1 F z v)).Nodup := by
  rw [keys_put]
  split
  · exact nd
  · exact nodup_snoc nd (by assumption)
theorem mem_put {F : TD} {z y : Str} {v : V} : y ∈ keysF (putF1 F z v) ↔ y ∈ keysF F ∨ y = z := by
  rw [keys_put]
  split
  · exact ⟨.inl, fun h => h.elim id fun e => by rw [e]; assumption⟩
  · rw [List.mem_append, List.mem_singleton]
theorem len_dkv (F : TD) : (dkv F).length = F.length := List.length_map ..
theorem len_keys (F : TD) : (keysF F).length = F.length := List.length_map ..
/-- unlike things of W are no more than W has -/
theorem nodup_le {xs W : List Str} (nd : xs.Nodup) (h : ∀ z ∈ xs, z ∈ W) : xs.length ≤ W.length := nd.length_le_of_subset h
/-! ### plain rules -/
abbrev PR := V × List Str
def headsOf : V → List Str
  | .str z => [z]
  | _ => []
def namesOf (rs : List PR) : List Str := rs.flatMap fun r => headsOf r.1 ++ r.2
/-- the heads that come in -/
def nextS (rs : List PR) (ks : List Str) : List Str := rs.flatMap fun r => (headsOf r.1).filter fun z => decide (z ∉ ks) && r.2.all fun x => decide (x ∈ ks)
def stepF (rs : List PR) (n : Nat) (F : TD) : TD := (nextS rs (keysF F)).foldl (fun G z => putF1 G z (.int n)) F
def runF (rs : List PR) : Nat → Nat → TD → TD
  | 0, _, F => F
  | k + 1, n, F => if nextS rs (keysF F) = [] then F else runF rs k (n + 1) (stepF rs n F)
def initF (ss : List Str) : TD := ss.map fun z => (z, .int 0)
def levF (rs : List PR) (ss : List Str) : TD := runF rs 30 1 (initF ss)
theorem run_fix {rs : List PR} {F : TD} (h : nextS rs (keysF F) = []) : ∀ k n, runF rs k n F = F
  | 0, _ => rfl
  | k + 1, n => if_pos h
theorem run_step {rs : List PR} {F : TD} (h : nextS rs (keysF F) ≠ []) (k n : Nat) : runF rs (k + 1) n F = runF rs k (n + 1) (stepF rs n F) := if_neg h
theorem next_mem {rs : List PR} {ks : List Str} {z : Str} (h : z ∈ nextS rs ks) : z ∈ namesOf rs ∧ z ∉ ks := by
  obtain ⟨r, hr, hz⟩ := List.mem_flatMap.mp h
  obtain ⟨h1, h2⟩ := List.mem_filter.mp hz
  rw [Bool.and_eq_true, decide_eq_true_iff] at h2
  exact ⟨List.mem_flatMap.mpr ⟨r, hr, List.mem_append_left _ h1⟩, h2.1⟩
theorem fold_put {n : Nat} : ∀ (zs : List Str) (F : TD), (keysF F).Nodup → (keysF (zs.foldl (fun G z => putF1 G z (.int n)) F)).Nodup ∧ ∀ y, y ∈ keysF (zs.foldl (fun G z => putF1 G z (.int n)) F) ↔ y ∈ keysF F ∨ y ∈ zs
  | [], F, nd => ⟨nd, fun y => by simp⟩
  | z :: r, F, nd => by
    obtain ⟨h1, h2⟩ := fold_put r (putF1 F z (.int n)) (nodup_put nd)
    refine ⟨h1, fun y => ?_⟩
    show y ∈ keysF (r.foldl _ (putF1 F z (.int n))) ↔ _
    rw [h2, mem_put, List.mem_cons, or_assoc]
theorem fold_len {n : Nat} : ∀ (zs : List Str) (F : TD), F.length ≤ (zs.foldl (fun G z => putF1 G z (.int n)) F).length
  | [], F => Nat.le_refl _
  | z :: r, F => by
    have h1 := fold_len (n := n) r (putF1 F z (.int n))
    have h2 : F.length ≤ (putF1 F z (.int n)).length := by
      rw [← len_keys, ← len_keys, keys_put]
      split
      · exact Nat.le_refl _
      · rw [List.length_append]; omega
    exact Nat.le_trans h2 h1
theorem step_more {rs : List PR} {n : Nat} {F : TD} (nd : (keysF F).Nodup) (h : nextS rs (keysF F) ≠ []) : F.length + 1 ≤ (stepF rs n F).length := by
  unfold stepF
  cases e : nextS rs (keysF F) with
  | nil => exact absurd e h
  | cons z r =>
    have hz := (next_mem (z := z) (by rw [e]; exact .head _)).2
    have h1 := fold_len (n := n) r (putF1 F z (.int n))
    have h2 : (putF1 F z (.int n)).length = F.length + 1 := by rw [putF1_new hz, List.length_append]; rfl
    show _ ≤ (r.foldl _ (putF1 F z (.int n))).length
    omega
/-- what holds of a run: all names are of W -/
def InW (W : List Str) (F : TD) : Prop := (keysF F).Nodup ∧ ∀ z ∈ keysF F, z ∈ W
theorem InW.step {W : List Str} {rs : List PR} {n : Nat} {F : TD} (hW : ∀ z ∈ namesOf rs, z ∈ W) (h : InW W F) : InW W (stepF rs n F) := by
  obtain ⟨h1, h2⟩ := fold_put (n := n) (nextS rs (keysF F)) F h.1
  exact ⟨h1, fun z hz => ((h2 z).mp hz).elim (h.2 z) fun k => hW z (next_mem k).1⟩
theorem InW.run {W : List Str} {rs : List PR} (hW : ∀ z ∈ namesOf rs, z ∈ W) : ∀ (k n : Nat) (F : TD), InW W F → InW W (runF rs k n F)
  | 0, _, _, h => h
  | k + 1, n, F, h => by
    by_cases e : nextS rs (keysF F) = []
    · rw [run_fix e]; exact h
    · rw [run_step e]; exact InW.run hW k (n + 1) _ (h.step hW)
theorem InW.len {W : List Str} {F : TD} (h : InW W F) : F.length ≤ W.length := by rw [← len_keys]; exact nodup_le h.1 h.2
theorem keys_init (ss : List Str) : keysF (initF ss) = ss := by unfold keysF initF; rw [List.map_map]; exact List.map_id _
theorem InW.init {W ss : List Str} (nd : ss.Nodup) (h : ∀ z ∈ ss, z ∈ W) : InW W (initF ss) := by unfold InW; rw [keys_init]; exact ⟨nd, h⟩
/-- all values are ints -/
def IntsF (F : TD) : Prop := ∀ e ∈ F, ∃ n : Nat, e.2 = .int (n : Nat)
theorem IntsF.put {F : TD} {z : Str} {n : Nat} (h : IntsF F) : IntsF (putF1 F z (.int n)) := by
  induction F with
  | nil => intro e he; rw [List.mem_singleton.mp he]; exact ⟨n, rfl⟩
  | cons a r ih =>
    intro e he
    have hr : IntsF r := fun x hx => h x (.tail _ hx)
    by_cases k : a.1 = z
    · rw [show putF1 (a :: r) z (.int n) = (a.1, .int n) :: r from if_pos k] at he
      rcases List.mem_cons.mp he with rfl | m
      · exact ⟨n, rfl⟩
      · exact hr e m
    · rw [show putF1 (a :: r) z (.int n) = a :: putF1 r z (.int n) from if_neg k] at he
      rcases List.mem_cons.mp he with rfl | m
      · exact h _ (.head _)
      · exact ih hr e m
theorem IntsF.fold {n : Nat} : ∀ (zs : List Str) (F : TD), IntsF F → IntsF (zs.foldl (fun G z => putF1 G z (.int n)) F)
  | [], _, h => h
  | z :: r, F, h => IntsF.fold r _ h.put
theorem IntsF.run {rs : List PR} : ∀ (k n : Nat) (F : TD), IntsF F → IntsF (runF rs k n F)
  | 0, _, _, h => h
  | k + 1, n, F, h => by
    by_cases e : nextS rs (keysF F) = []
    · rw [run_fix e]; exact h
    · rw [run_step e]; exact IntsF.run k (n + 1) _ (IntsF.fold _ _ h)
theorem IntsF.init (ss : List Str) : IntsF (initF ss) := fun e he => by obtain ⟨z, _, rfl⟩ := List.mem_map.mp he; exact ⟨0, rfl⟩
end Gx

/-! loops over a list or a tuple; comprehensions by a word over the heap; dict comprehensions -/
namespace Gx
open PySem PySem.Spec PyProof.Rows L2 Evl
def SqA (K : PySem.W.Frag) (H : Hp) (p : Addr) (xs : List V) : Prop := SqL K H p xs ∨ SqT K H p xs
theorem SqA.ex {K : PySem.W.Frag} {H H' : Hp} {p : Addr} {xs : List V} (e : Ex H H') (h : SqA K H p xs) : SqA K H' p xs := h.imp (ex_l e) (ex_t e)
section
variable {K : PySem.W.Frag} {σ σ0 : L2.St} {H H1 : Hp} {Q : VK} {D : Ends} {te tk tv tl : TE} {tt : TT} {g : TG} {tb : TS} {vs : List Nat} {J : It} {n : Nat} {G : Hp → Prop} {Y : Nat → Hp → V → Hp → Prop}
theorem for_seq {H0 : Hp} {p : Addr} {xs : List V} (hv : ∀ R : VK, R (.ref p) H → tl σ H R) (hp : SqA K H0 p xs) (e0 : Ex H0 H) (Pv : Nat → L2.St → Hp → Prop) (h0 : Pv 0 σ H) (hG : ∀ i σ' H', Pv i σ' H' → Ex H0 H')
    (hs : ∀ i x σ' H', i < xs.length → Pv i σ' H' → xs[i]? = some x → g x σ' H' fun σ2 H2 => tb { D with nx := Pv (i + 1), ct := Pv (i + 1), bk := D.nx } σ2 H2) (hd : ∀ σ' H', Pv xs.length σ' H' → D.nx σ' H') :
    iOr (iList K tl) (iTup K tl) σ H fun J H1 => ∃ W : Nat → Nat → L2.St → Hp → Prop, (∃ m, W 0 m σ H1) ∧ ∀ i m σ H, W i m σ H →
      (J.stop i H ∧ D.nx σ H) ∨ (J.go i H ∧ ∃ N : L2.St → Hp → Prop, (∀ σ' H', N σ' H' → ∃ m', m' < m ∧ W (i + 1) m' σ' H') ∧ ∀ x H', J.yld i H x H' → g x σ H' fun σ2 H2 => tb { D with nx := N, ct := N, bk := D.nx } σ2 H2) := by
  rcases hp with hp | hp
  · refine .inl (c_iList (hv _ (c_iL (ex_l e0 hp) ?_)))
    exact for_it walk_list Pv h0 (fun i σ' H' _ h => ex_l (hG i σ' H' h) hp) (fun i x σ' H' H'' hi h hy => by obtain ⟨rfl, hx⟩ := hy; exact hs i x σ' _ hi h hx) hd
  · refine .inr (c_iTup (hv _ (c_iT (ex_t e0 hp) ?_)))
    exact for_it walk_tup Pv h0 (fun i σ' H' _ h => ex_t (hG i σ' H' h) hp) (fun i x σ' H' H'' hi h hy => by obtain ⟨rfl, hx⟩ := hy; exact hs i x σ' _ hi h hx) hd
theorem lc_seq {p : Addr} {xs : List V} {Qd : Addr → Hp → Prop} (hv : ∀ R : VK, R (.ref p) H1 → tl σ H1 R) (hp : SqA K H1 p xs) (R : Nat → List V → Prop) (hw : wipe σ vs = σ0) (hn : xs.length < 100000) (r0 : R 0 [])
    (hs : ∀ i acc x H2 (Q1 : V → Hp → Prop) (Q0 : Hp → Prop), i < xs.length → R i acc → Ex H1 H2 → xs[i]? = some x → (∀ y H6, Ex H2 H6 → R (i + 1) (acc ++ [y]) → Q1 y H6) → (∀ H5, Ex H2 H5 → R (i + 1) acc → Q0 H5) →
      g x σ0 H2 fun σ2 H4 => wipe σ2 vs = σ0 ∧ tt σ2 H4 fun b H5 => if b = true then te σ2 H5 Q1 else Q0 H5)
    (hd : ∀ D H' ys, H1 D = none → Ex H1 H' → R xs.length ys → ys.length ≤ xs.length → H' D = some (.lst ys) → Qd D H') :
    iOr (iList K tl) (iTup K tl) σ H1 fun J H1 => ∀ D, H1 D = none → ∃ W : Nat → Nat → Hp → Prop, (∃ m, W 0 m (upd H1 D (.lst []))) ∧ ∀ i m H, W i m H →
      (J.stop i H ∧ Qd D H) ∨ (J.go i H ∧ ∃ Nx : Hp → Prop, (∀ H', Nx H' → ∃ m', m' < m ∧ W (i + 1) m' H') ∧ ∀ x H', J.yld i H x H' → g x (wipe σ vs) H' fun σ2 H2 => wipe σ2 vs = wipe σ vs ∧ tt σ2 H2 fun b H3 =>
        if b = true then te σ2 H3 fun y H4 => ∃ acc, H4 D = some (.lst acc) ∧ acc.length < sizeLine ∧ Nx (upd H4 D (.lst (acc ++ [y]))) else Nx H3) := by
  rcases hp with hp | hp
  · refine .inl (c_iList (hv _ (c_iL hp ?_)))
    exact c_lc walk_list R hw hn r0 (fun _ e => ex_l e hp) (fun i acc x H2 H3 Q1 Q0 hi ra e2 hy k1 k0 => by obtain ⟨rfl, hx⟩ := hy; exact hs i acc x _ Q1 Q0 hi ra e2 hx k1 k0) hd
  · refine .inr (c_iTup (hv _ (c_iT hp ?_)))
    exact c_lc walk_tup R hw hn r0 (fun _ e => ex_t e hp) (fun i acc x H2 H3 Q1 Q0 hi ra e2 hy k1 k0 => by obtain ⟨rfl, hx⟩ := hy; exact hs i acc x _ Q1 Q0 hi ra e2 hx k1 k0) hd
/-- a comprehension whose element changes lists: a word over the heap -/
theorem lc_inv {Qd : Addr → Hp → Prop} (w : Walk J n G Y) (R : Addr → Nat → List V → Hp → Prop) (hw : wipe σ vs = σ0) (hn : n < 100000) (r0 : ∀ D, H1 D = none → R D 0 [] (upd H1 D (.lst []))) (hG : ∀ D i acc H', R D i acc H' → G H')
    (hs : ∀ D i acc x H2 H3 (Q1 : V → Hp → Prop) (Q0 : Hp → Prop), H1 D = none → i < n → R D i acc H2 → H2 D = some (.lst acc) → acc.length ≤ i → Y i H2 x H3 → (∀ y H6, H6 D = some (.lst acc) → R D (i + 1) (acc ++ [y]) (upd H6 D (.lst (acc ++ [y]))) → Q1 y H6) → (∀ H5, H5 D = some (.lst acc) → R D (i + 1) acc H5 → Q0 H5) →
      g x σ0 H3 fun σ2 H4 => wipe σ2 vs = σ0 ∧ tt σ2 H4 fun b H5 => if b = true then te σ2 H5 Q1 else Q0 H5)
    (hd : ∀ D H' xs, H1 D = none → R D n xs H' → xs.length ≤ n → H' D = some (.lst xs) → Qd D H') :
    ∀ (D : Addr), H1 D = none → ∃ W : Nat → Nat → Hp → Prop, (∃ m, W 0 m (upd H1 D (.lst []))) ∧ ∀ i m H, W i m H →
      (J.stop i H ∧ Qd D H) ∨ (J.go i H ∧ ∃ Nx : Hp → Prop, (∀ H', Nx H' → ∃ m', m' < m ∧ W (i + 1) m' H') ∧ ∀ x H', J.yld i H x H' → g x (wipe σ vs) H' fun σ2 H2 => wipe σ2 vs = wipe σ vs ∧ tt σ2 H2 fun b H3 =>
        if b = true then te σ2 H3 fun y H4 => ∃ acc, H4 D = some (.lst acc) ∧ acc.length < sizeLine ∧ Nx (upd H4 D (.lst (acc ++ [y]))) else Nx H3) := by
  intro D hD
  subst hw
  refine lc_it w (Qd := Qd D) (fun i H' => ∃ acc, R D i acc H' ∧ acc.length ≤ i ∧ H' D = some (.lst acc)) ⟨[], r0 D hD, Nat.le_refl _, upd_same⟩ (fun i H' _ ⟨acc, h, _⟩ => hG D i acc H' h) (fun i x H2 H3 hi ⟨acc, ra, la, ea⟩ hy => ?_) (fun H' ⟨acc, ra, la, ea⟩ => hd D H' acc hD ra la ea)
  exact hs D i acc x H2 H3 _ _ hD hi ra ea la hy (fun y H6 e6 r2 => ⟨acc, e6, sz_lt (by omega), acc ++ [y], r2, by simp; omega, upd_same⟩) (fun H5 e5 r2 => ⟨acc, r2, by omega, e5⟩)
/-- {k: v for ..}, keys texts -/
theorem dc_ex {Qd : Addr → Hp → Prop} (w : Walk J n G Y) (R : Nat → TD → Prop) (hw : wipe σ vs = σ0) (r0 : R 0 []) (hnd : ∀ i F, R i F → (keysF F).Nodup ∧ F.length < 100000) (hG : ∀ H', Ex H1 H' → G H')
    (hs : ∀ i F x H2 H3 (QK : V → V → Hp → Prop), i < n → R i F → Ex H1 H2 → Y i H2 x H3 → (∀ z v H6, Ex H2 H6 → R (i + 1) (putF1 F z v) → QK (.str z) v H6) →
      g x σ0 H3 fun σ2 H4 => wipe σ2 vs = σ0 ∧ tk σ2 H4 fun y H5 => tv σ2 H5 fun v H6 => QK y v H6)
    (hd : ∀ D H' F, H1 D = none → Ex H1 H' → R n F → H' D = some (.dK (dkv F)) → Qd D H') :
    ∀ (D : Addr), H1 D = none → ∃ W : Nat → Nat → Hp → Prop, (∃ m, W 0 m (upd H1 D (.dK []))) ∧ ∀ i m H, W i m H →
      (J.stop i H ∧ Qd D H) ∨ (J.go i H ∧ ∃ Nx : Hp → Prop, (∀ H', Nx H' → ∃ m', m' < m ∧ W (i + 1) m' H') ∧ ∀ x H', J.yld i H x H' → g x (wipe σ vs) H' fun σ2 H2 => wipe σ2 vs = wipe σ vs ∧ tYes σ2 H2 fun b H3 =>
        if b = true then tk σ2 H3 fun y H4 => tv σ2 H4 fun z H5 => ∃ kvs k, y = kV k ∧ H5 D = some (.dK kvs) ∧ kvs.length < sizeLine ∧ Nx (upd H5 D (.dK (putK kvs k z))) else Nx H3) := by
  intro D hD
  subst hw
  let Pv : Nat → Hp → Prop := fun i H' => Ex H1 H' ∧ ∃ F, R i F ∧ H' D = some (.dK (dkv F))
  refine ⟨fun i m H => m = n - i ∧ i ≤ n ∧ Pv i H, ⟨n, by simp, Nat.zero_le _, Ex.new hD, [], r0, upd_same⟩, ?_⟩
  rintro i m H ⟨rfl, hi, e1, F, hR, hF⟩
  have q := hG H e1
  by_cases hlt : i < n
  · refine .inr ⟨w.goes i H hlt q, Pv (i + 1), fun H' p' => ⟨n - (i + 1), by omega, rfl, hlt, p'⟩, fun x H' y => ?_⟩
    have key := hs i F x H H' (fun y z H5 => ∃ kvs k, y = kV k ∧ H5 D = some (.dK kvs) ∧ kvs.length < sizeLine ∧ Pv (i + 1) (upd H5 D (.dK (putK kvs k z)))) hlt hR e1 (w.yields i H x H' hlt q y) (fun z v H6 e6 r6 => by
      obtain ⟨nd, hl⟩ := hnd i F hR
      exact ⟨dkv F, kS z, rfl, e6 _ _ hF, sz_lt (by rw [len_dkv]; exact hl), Ex.mut (e1.trans e6) hD, putF1 F z v, r6, by rw [upd_same, putK_dkv F z v nd]⟩)
    exact key
  · have e : i = n := by omega
    subst e
    exact .inl ⟨w.stops H q, hd D H F hD e1 hR hF⟩
end
theorem c_dcW {σ : L2.St} {H : Hp} {Q : VK} {wi : TI} {g : TG} {tt : TT} {tk tv : TE} {vs : List Nat} (h : wi σ H fun J H1 => ∀ D, H1 D = none → ∃ W : Nat → Nat → Hp → Prop, (∃ m, W 0 m (upd H1 D (.dK []))) ∧ ∀ i m H, W i m H →
  (J.stop i H ∧ Q (.ref D) H) ∨ (J.go i H ∧ ∃ Nx : Hp → Prop, (∀ H', Nx H' → ∃ m', m' < m ∧ W (i + 1) m' H') ∧ ∀ x H', J.yld i H x H' → g x (wipe σ vs) H' fun σ2 H2 => wipe σ2 vs = wipe σ vs ∧ tt σ2 H2 fun b H3 =>
    if b = true then tk σ2 H3 fun y H4 => tv σ2 H4 fun z H5 => ∃ kvs k, y = kV k ∧ H5 D = some (.dK kvs) ∧ kvs.length < sizeLine ∧ Nx (upd H5 D (.dK (putK kvs k z))) else Nx H3)) : tDc wi g tt tk tv vs σ H Q := h
theorem kbindsR {K : PySem.W.Frag} {x qual : Str} {st : Stmt} {f : Addr} {fd : FuncData} {ps ks : List Str} (F : Fun K x qual st f fd)
    (h : ∀ (kV doc pm : Value) (an : Option Addr) (cdv ct : Value) (us ws : List Value), (us ++ ws).length = ps.length → bindArgs (PySem.W.fnOf x qual (defArgs st) (defBody st) (defScope st) .none kV doc pm an cdv ct) ⟨us, ks.zip ws⟩ = pure (ps.zip (us ++ ws.reverse))) : KBinds K fd ps ks (fun us ws => us ++ ws.reverse) (fun vs zs => vs ++ zs.reverse) := by
  obtain ⟨oc, od, kV, doc, pm, an, cdv, ct, osl, rfl, lk, hcd⟩ := F.ex
  exact ⟨fun s us ws _ hl => .of_eq (h kV doc pm an cdv ct us ws (by rw [List.length_append] at hl ⊢; rw [List.length_reverse] at hl; exact hl)), fun r1 r2 => r1.append r2.reverse⟩
theorem take_snoc' {α : Type} {xs : List α} {i : Nat} {x : α} (h : xs[i]? = some x) : xs.take (i + 1) = xs.take i ++ [x] := take_snoc h
/-- what is left of a list, and the thing that is popped -/
theorem erase_perm {xs : List Str} {k : Nat} {x : Str} (h : xs[k]? = some x) : xs.Perm (x :: xs.eraseIdx k) := by
  induction xs generalizing k with
  | nil => simp at h
  | cons a r ih =>
    cases k with
    | zero => cases h; exact .refl _
    | succ k =>
      have := ih (k := k) h
      exact (List.Perm.cons a this).trans (.swap x a _)
end Gx

/-! plain rules: the least closed set, by rounds and by going round at once -/
namespace Gx
open PySem PySem.Spec PyProof.Rows L2 Evl
/-- closed under the rules -/
def ClosedS (rs : List PR) (S : Str → Prop) : Prop := ∀ r ∈ rs, ∀ z ∈ headsOf r.1, (∀ x ∈ r.2, S x) → S z
theorem next_nil {rs : List PR} {ks : List Str} : nextS rs ks = [] ↔ ClosedS rs fun z => z ∈ ks := by
  unfold nextS ClosedS
  rw [List.flatMap_eq_nil_iff]
  constructor
  · intro h r hr z hz hb
    have := h r hr
    rw [List.filter_eq_nil_iff] at this
    have h2 := this z hz
    refine Classical.byContradiction fun no => h2 ?_
    rw [Bool.and_eq_true, decide_eq_true_iff, List.all_eq_true]
    exact ⟨no, fun x hx => decide_eq_true (hb x hx)⟩
  · intro h r hr
    rw [List.filter_eq_nil_iff]
    intro z hz k
    rw [Bool.and_eq_true, decide_eq_true_iff, List.all_eq_true] at k
    exact k.1 (h r hr z hz fun x hx => of_decide_eq_true (k.2 x hx))
theorem run_closed {W : List Str} {rs : List PR} (hW : ∀ z ∈ namesOf rs, z ∈ W) : ∀ (k n : Nat) (F : TD), InW W F → W.length < F.length + k → nextS rs (keysF (runF rs k n F)) = []
  | 0, n, F, h, hk => by have := h.len; omega
  | k + 1, n, F, h, hk => by
    by_cases e : nextS rs (keysF F) = []
    · rw [run_fix e]; exact e
    · rw [run_step e]
      have := step_more (n := n) h.1 e
      exact run_closed hW k (n + 1) _ (h.step hW) (by omega)
theorem run_least {rs : List PR} {S : Str → Prop} (hS : ClosedS rs S) : ∀ (k n : Nat) (F : TD), (keysF F).Nodup → (∀ z ∈ keysF F, S z) → ∀ z ∈ keysF (runF rs k n F), S z
  | 0, _, _, _, h => h
  | k + 1, n, F, nd, h => by
    by_cases e : nextS rs (keysF F) = []
    · rw [run_fix e]; exact h
    · rw [run_step e]
      obtain ⟨h1, h2⟩ := fold_put (n := n) (nextS rs (keysF F)) F nd
      refine run_least hS k (n + 1) _ h1 fun z hz => ?_
      rcases (h2 z).mp hz with q | q
      · exact h z q
      · obtain ⟨r, hr, hz'⟩ := List.mem_flatMap.mp q
        obtain ⟨m1, m2⟩ := List.mem_filter.mp hz'
        rw [Bool.and_eq_true, List.all_eq_true] at m2
        exact hS r hr z m1 fun x hx => h x (of_decide_eq_true (m2.2 x hx))
theorem run_keeps {rs : List PR} : ∀ (k n : Nat) (F : TD), (keysF F).Nodup → ∀ z ∈ keysF F, z ∈ keysF (runF rs k n F)
  | 0, _, _, _, _, h => h
  | k + 1, n, F, nd, z, h => by
    by_cases e : nextS rs (keysF F) = []
    · rw [run_fix e]; exact h
    · rw [run_step e]
      obtain ⟨h1, h2⟩ := fold_put (n := n) (nextS rs (keysF F)) F nd
      exact run_keeps k (n + 1) _ h1 z ((h2 z).mpr (.inl h))
/-- what is held: the least closed set with the grounds -/
def LeastS (rs : List PR) (ss ks : List Str) : Prop := ks.Nodup ∧ (∀ z ∈ ss, z ∈ ks) ∧ (ClosedS rs fun z => z ∈ ks) ∧ ∀ S : Str → Prop, ClosedS rs S → (∀ z ∈ ss, S z) → ∀ z ∈ ks, S z
theorem lev_least {W ss : List Str} {rs : List PR} (hr : ∀ z ∈ namesOf rs, z ∈ W) (hs : ∀ z ∈ ss, z ∈ W) (hW : W.length ≤ 24) (nd : ss.Nodup) : LeastS rs ss (keysF (levF rs ss)) := by
  have hI := InW.init nd hs
  have hl : (initF ss).length = ss.length := by unfold initF; rw [List.length_map]
  refine ⟨(InW.run hr 30 1 _ hI).1, fun z hz => run_keeps 30 1 _ hI.1 z (by rw [keys_init]; exact hz), next_nil.mp (run_closed hr 30 1 _ hI (by omega)), fun S h1 h2 => run_least h1 30 1 _ hI.1 (by rw [keys_init]; exact h2)⟩
theorem least_perm {rs : List PR} {ss a b : List Str} (ha : LeastS rs ss a) (hb : LeastS rs ss b) : a.Perm b := by
  refine (List.perm_ext_iff_of_nodup ha.1 hb.1).mpr fun z => ⟨?_, ?_⟩
  · exact ha.2.2.2 (fun z => z ∈ b) hb.2.2.1 hb.2.1 z
  · exact hb.2.2.2 (fun z => z ∈ a) ha.2.2.1 ha.2.1 z
/-- going round at once: one rule -/
def addR (ks : List Str) (r : PR) : List Str := ks ++ (headsOf r.1).filter fun z => decide (z ∉ ks) && r.2.all fun x => decide (x ∈ ks)
def passR (rs : List PR) (ks : List Str) : List Str := rs.foldl addR ks
theorem headsOf_len (h : V) : (headsOf h).length ≤ 1 := by cases h <;> simp [headsOf]
theorem addR_nd {ks : List Str} {r : PR} (nd : ks.Nodup) : (addR ks r).Nodup := by
  unfold addR
  refine List.nodup_append.mpr ⟨nd, ?_, fun a ha b hb k => ?_⟩
  · refine List.Nodup.sublist (List.filter_sublist ..) ?_
    cases r.1 <;> simp [headsOf]
  · obtain ⟨_, m⟩ := List.mem_filter.mp hb
    rw [Bool.and_eq_true, decide_eq_true_iff] at m
    exact m.1 (k ▸ ha)
theorem addR_least {ks : List Str} {r : PR} {rs : List PR} {S : Str → Prop} (hS : ClosedS rs S) (hr : r ∈ rs) (h : ∀ z ∈ ks, S z) : ∀ z ∈ addR ks r, S z := by
  intro z hz
  rcases List.mem_append.mp hz with k | k
  · exact h z k
  · obtain ⟨m1, m2⟩ := List.mem_filter.mp k
    rw [Bool.and_eq_true, List.all_eq_true] at m2
    exact hS r hr z m1 fun x hx => h x (of_decide_eq_true (m2.2 x hx))
theorem passR_nd : ∀ (rs : List PR) {ks : List Str}, ks.Nodup → (passR rs ks).Nodup
  | [], _, h => h
  | _ :: rs, _, h => passR_nd rs (addR_nd h)
theorem passR_least {rs : List PR} {S : Str → Prop} (hS : ClosedS rs S) : ∀ (qs : List PR) {ks : List Str}, (∀ r ∈ qs, r ∈ rs) → (∀ z ∈ ks, S z) → ∀ z ∈ passR qs ks, S z
  | [], _, _, h => h
  | r :: qs, _, hq, h => passR_least hS qs (fun r hr => hq r (.tail _ hr)) (addR_least hS (hq r (.head _)) h)
theorem passR_len : ∀ (rs : List PR) (ks : List Str), ks.length ≤ (passR rs ks).length ∧ ((passR rs ks).length = ks.length → passR rs ks = ks ∧ ClosedS rs fun z => z ∈ ks)
  | [], ks => ⟨Nat.le_refl _, fun _ => ⟨rfl, fun r hr => by cases hr⟩⟩
  | r :: rs, ks => by
    obtain ⟨h1, h2⟩ := passR_len rs (addR ks r)
    have h3 : ks.length ≤ (addR ks r).length := by unfold addR; rw [List.length_append]; omega
    refine ⟨Nat.le_trans h3 h1, fun e => ?_⟩
    have e1 : (passR rs (addR ks r)).length = ks.length := e
    have e2 : (addR ks r).length = ks.length := by omega
    obtain ⟨h4, h5⟩ := h2 (by omega)
    have e3 : ((headsOf r.1).filter fun z => decide (z ∉ ks) && r.2.all fun x => decide (x ∈ ks)) = [] := by
      unfold addR at e2; rw [List.length_append] at e2
      exact List.length_eq_zero_iff.mp (by omega)
    have e4 : addR ks r = ks := by unfold addR; rw [e3, List.append_nil]
    rw [e4] at h4 h5
    refine ⟨by show passR rs (addR ks r) = ks; rw [e4]; exact h4, fun q hq z hz hb => ?_⟩
    rcases List.mem_cons.mp hq with rfl | k
    · rw [List.filter_eq_nil_iff] at e3
      have := e3 z hz
      refine Classical.byContradiction fun no => this ?_
      rw [Bool.and_eq_true, decide_eq_true_iff, List.all_eq_true]
      exact ⟨no, fun x hx => decide_eq_true (hb x hx)⟩
    · exact h5 q k z hz hb
/-- all by name, none by place -/
def kwAll {α : Type} : List α → List α → List α
  | [], zs => zs
  | _ :: _, _ => []
theorem kbindsA {K : PySem.W.Frag} {x qual : Str} {st : Stmt} {f : Addr} {fd : FuncData} {ps ks : List Str} (F : Fun K x qual st f fd) (hp : ps ≠ [])
    (h : ∀ (kV doc pm : Value) (an : Option Addr) (cdv ct : Value) (ws : List Value), ws.length = ps.length → bindArgs (PySem.W.fnOf x qual (defArgs st) (defBody st) (defScope st) .none kV doc pm an cdv ct) ⟨[], ks.zip ws⟩ = pure (ps.zip ws)) : KBinds K fd ps ks kwAll kwAll := by
  obtain ⟨oc, od, kV, doc, pm, an, cdv, ct, osl, rfl, lk, hcd⟩ := F.ex
  refine ⟨fun s us ws _ hl => ?_, fun r1 r2 => ?_⟩
  · cases us with
    | nil => exact .of_eq (h kV doc pm an cdv ct ws hl)
    | cons u us => exact absurd (List.length_eq_zero_iff.mp (show ps.length = 0 from hl.symm)) hp
  · cases r1 with
    | nil => exact r2
    | cons _ _ => exact .nil
end Gx

set_option maxHeartbeats 800000
namespace K11
open PySem PySem.Spec PyProof.Rows L2 Evl Gx
def topS (i : Nat) : Stmt := PySem.Challenge.pw_groundlots_k11_what_is_held.main.body.getD i (.Pass ⟨0, 0, 0, 0⟩)
abbrev s_is_small_letter : Stmt := topS 11
theorem sc_is_small_letter : FnScope ["sign"] ["sign"] (defScope s_is_small_letter) := ⟨rfl, rfl, rfl, by decide +kernel, rfl, by decide +kernel, by decide +kernel⟩
abbrev s_is_name : Stmt := topS 10
theorem sc_is_name : FnScope ["thing", "sign"] ["thing"] (defScope s_is_name) := ⟨rfl, rfl, rfl, by decide +kernel, rfl, by decide +kernel, by decide +kernel⟩
abbrev s_is_names : Stmt := topS 12
theorem sc_is_names : FnScope ["thing", "most", "one"] ["thing", "most"] (defScope s_is_names) := ⟨rfl, rfl, rfl, by decide +kernel, rfl, by decide +kernel, by decide +kernel⟩
abbrev s_wanted_names : Stmt := topS 13
theorem sc_wanted_names : FnScope ["thing", "most"] ["thing", "most"] (defScope s_wanted_names) := ⟨rfl, rfl, rfl, by decide +kernel, rfl, by decide +kernel, by decide +kernel⟩
abbrev s_Rule___init__ : Stmt := inClass (topS 18) 0
theorem sc_Rule___init__ : FnScope ["self", "head", "body", "unless"] ["self", "head", "body", "unless"] (defScope s_Rule___init__) := ⟨rfl, rfl, rfl, by decide +kernel, rfl, by decide +kernel, by decide +kernel⟩
abbrev s_Rule_told : Stmt := inClass (topS 18) 1
theorem sc_Rule_told : FnScope ["self"] ["self"] (defScope s_Rule_told) := ⟨rfl, rfl, rfl, by decide +kernel, rfl, by decide +kernel, by decide +kernel⟩
abbrev s_names_in : Stmt := topS 19
theorem sc_names_in : FnScope ["rules", "more", "name", "found", "rule"] ["rules", "more"] (defScope s_names_in) := ⟨rfl, rfl, rfl, by decide +kernel, rfl, by decide +kernel, by decide +kernel⟩
abbrev s_is_base : Stmt := topS 20
theorem sc_is_base : FnScope ["thing", "one"] ["thing"] (defScope s_is_base) := ⟨rfl, rfl, rfl, by decide +kernel, rfl, by decide +kernel, by decide +kernel⟩
abbrev s_wanted_base : Stmt := topS 21
theorem sc_wanted_base : FnScope ["thing"] ["thing"] (defScope s_wanted_base) := ⟨rfl, rfl, rfl, by decide +kernel, rfl, by decide +kernel, by decide +kernel⟩
abbrev s_wanted_plain : Stmt := topS 22
theorem sc_wanted_plain : FnScope ["thing", "base", "rule"] ["thing"] (defScope s_wanted_plain) := ⟨rfl, rfl, rfl, by decide +kernel, rfl, by decide +kernel, by decide +kernel⟩
abbrev s_wanted_beside : Stmt := topS 23
theorem sc_wanted_beside : FnScope ["thing", "rules", "most", "names"] ["thing", "rules", "most"] (defScope s_wanted_beside) := ⟨rfl, rfl, rfl, by decide +kernel, rfl, by decide +kernel, by decide +kernel⟩
abbrev s_wanted : Stmt := topS 27
theorem sc_wanted : FnScope ["rules", "grounds", "base"] ["rules", "grounds"] (defScope s_wanted) := ⟨rfl, rfl, rfl, by decide +kernel, rfl, by decide +kernel, by decide +kernel⟩
abbrev s_has_all : Stmt := topS 28
theorem sc_has_all : FnScope ["there", "names", "name"] ["there", "names"] (defScope s_has_all) := ⟨rfl, rfl, rfl, by decide +kernel, rfl, by decide +kernel, by decide +kernel⟩
abbrev s_next_heads : Stmt := topS 30
theorem sc_next_heads : FnScope ["rules", "there", "rule"] ["rules", "there"] (defScope s_next_heads) := ⟨rfl, rfl, rfl, by decide +kernel, rfl, by decide +kernel, by decide +kernel⟩
abbrev s_rounds : Stmt := topS 31
theorem sc_rounds : FnScope ["rules", "grounds", "name", "found", "number", "come"] ["rules", "grounds"] (defScope s_rounds) := ⟨rfl, rfl, rfl, by decide +kernel, rfl, by decide +kernel, by decide +kernel⟩
abbrev s_first_never : Stmt := topS 29
theorem sc_first_never : FnScope ["rules", "there", "place", "rule"] ["rules", "there"] (defScope s_first_never) := ⟨rfl, rfl, rfl, by decide +kernel, rfl, by decide +kernel, by decide +kernel⟩
abbrev s_held : Stmt := topS 25
theorem sc_held : FnScope ["rules", "grounds", "base", "given"] ["rules", "grounds"] (defScope s_held) := ⟨rfl, rfl, rfl, by decide +kernel, rfl, by decide +kernel, by decide +kernel⟩
abbrev s_clash : Stmt := topS 26
theorem sc_clash : FnScope ["rules", "grounds", "base", "given"] ["rules", "grounds"] (defScope s_clash) := ⟨rfl, rfl, rfl, by decide +kernel, rfl, by decide +kernel, by decide +kernel⟩
abbrev s__law_begun : Stmt := topS 33
theorem sc__law_begun : FnScope ["script"] ["script"] (defScope s__law_begun) := ⟨rfl, rfl, rfl, by decide +kernel, rfl, by decide +kernel, by decide +kernel⟩
abbrev s__law_take : Stmt := topS 34
theorem sc__law_take : FnScope ["state", "many", "cells", "found", "cell"] ["state", "many"] (defScope s__law_take) := ⟨rfl, rfl, rfl, by decide +kernel, rfl, by decide +kernel, by decide +kernel⟩
abbrev s__law_kept : Stmt := topS 35
theorem sc__law_kept : FnScope [] [] (defScope s__law_kept) := ⟨rfl, rfl, rfl, by decide +kernel, rfl, by decide +kernel, by decide +kernel⟩
abbrev s__law_name : Stmt := topS 36
theorem sc__law_name : FnScope ["state", "used", "letters", "own", "way", "word", "at", "k", "some", "one"] ["state", "used"] (defScope s__law_name) := ⟨rfl, rfl, rfl, by decide +kernel, rfl, by decide +kernel, by decide +kernel⟩
abbrev s__law_names : Stmt := topS 37
theorem sc__law_names : FnScope ["state", "used", "many", "k"] ["state", "used", "many"] (defScope s__law_names) := ⟨rfl, rfl, rfl, by decide +kernel, rfl, by decide +kernel, by decide +kernel⟩
abbrev s__law_pair : Stmt := topS 38
theorem sc__law_pair : FnScope ["state", "names", "size", "left", "body", "k"] ["state", "names"] (defScope s__law_pair) := ⟨rfl, rfl, rfl, by decide +kernel, rfl, by decide +kernel, by decide +kernel⟩
abbrev s__law_pairs : Stmt := topS 39
theorem sc__law_pairs : FnScope ["state", "names", "most", "k"] ["state", "names", "most"] (defScope s__law_pairs) := ⟨rfl, rfl, rfl, by decide +kernel, rfl, by decide +kernel, by decide +kernel⟩
abbrev s__law_some : Stmt := topS 40
theorem sc__law_some : FnScope ["state", "names", "left", "k"] ["state", "names"] (defScope s__law_some) := ⟨rfl, rfl, rfl, by decide +kernel, rfl, by decide +kernel, by decide +kernel⟩
abbrev s__law_held : Stmt := topS 41
theorem sc__law_held : FnScope ["pairs", "some", "found", "many", "head", "body", "one"] ["pairs", "some"] (defScope s__law_held) := ⟨rfl, rfl, rfl, by decide +kernel, rfl, by decide +kernel, by decide +kernel⟩
abbrev s__law_same0 : Stmt := topS 42
theorem sc__law_same0 : FnScope ["found", "due", "one", "other"] ["found", "due"] (defScope s__law_same0) := ⟨rfl, rfl, rfl, by decide +kernel, rfl, by decide +kernel, by decide +kernel⟩
abbrev s__law_same : Stmt := topS 42
theorem sc__law_same : FnScope ["found", "due", "one", "other"] ["found", "due"] (defScope s__law_same) := ⟨rfl, rfl, rfl, by decide +kernel, rfl, by decide +kernel, by decide +kernel⟩
abbrev s__law_clash : Stmt := topS 43
theorem sc__law_clash : FnScope ["pairs", "names", "bodies", "head", "body", "name"] ["pairs", "names"] (defScope s__law_clash) := ⟨rfl, rfl, rfl, by decide +kernel, rfl, by decide +kernel, by decide +kernel⟩
abbrev s__law_turned : Stmt := topS 44
theorem sc__law_turned : FnScope ["state", "pairs", "left", "k"] ["state", "pairs"] (defScope s__law_turned) := ⟨rfl, rfl, rfl, by decide +kernel, rfl, by decide +kernel, by decide +kernel⟩
abbrev s__law_right : Stmt := topS 45
theorem sc__law_right : FnScope ["pairs", "some", "due", "handed", "kept", "asked", "found", "head", "body", "one"] ["pairs", "some"] (defScope s__law_right) := ⟨rfl, rfl, rfl, by decide +kernel, rfl, by decide +kernel, by decide +kernel⟩
abbrev s_law : Stmt := topS 46
theorem sc_law : FnScope ["script", "state", "wide", "used", "words", "pairs", "some", "base", "head", "body"] ["script"] (defScope s_law) := ⟨rfl, rfl, rfl, by decide +kernel, rfl, by decide +kernel, by decide +kernel⟩
end K11

set_option maxHeartbeats 800000
namespace K11
open PySem PySem.Spec PyProof.Rows L2 Evl Gx
def g_Rule_2 (Z : Ads) (vs zs : List V) : List V := vs ++ [.ref Z.dU]
def Names (ss : List Str) : Prop := ∀ z ∈ ss, nameS z = true
/-- plain rules at the addresses -/
def RsAt (K : PySem.W.Frag) (Z : Ads) (H : Hp) : List Addr → List PR → Prop
  | [], [] => True
  | a :: as, r :: rs => IsRule K Z H a r.1 (r.2.map V.str) [] ∧ RsAt K Z H as rs
  | _, _ => False
def sp_wanted_names (K : PySem.W.Frag) : Sp := fun vs H Q _ => ∃ (q : Addr) (ss : List Str), vs = [.ref q, .int 24] ∧ SqA K H q (ss.map V.str) ∧ Names ss ∧ ss.Nodup ∧ ss.length ≤ 24 ∧ ∀ r H', Ex H H' → SqT K H' r (ss.map V.str) → Q (.ref r) H'
def sp_names_in (K : PySem.W.Frag) (Z : Ads) : Sp := fun vs H Q _ => ∃ (p q : Addr) (as : List Addr) (rs : List PR) (ss W : List Str), vs = [.ref p, .ref q] ∧ SqA K H p (as.map V.ref) ∧ RsAt K Z H as rs ∧ SqA K H q (ss.map V.str) ∧
  (∀ z ∈ namesOf rs, z ∈ W) ∧ (∀ z ∈ ss, z ∈ W) ∧ W.length < 64 ∧ rs.length ≤ 1000 ∧ ss.length ≤ 1000 ∧ ∀ (ys : List Str) r H', Ex H H' → H' r = some (.lst (ys.map V.str)) → ys.Nodup → (∀ z, z ∈ ys ↔ z ∈ ss ∨ z ∈ namesOf rs) → sortedS ys = true → Q (.ref r) H'
def sp_is_base (K : PySem.W.Frag) (Z : Ads) : Sp := fun vs H Q _ => ∃ (p : Addr) (as : List Addr) (rs : List PR) (W : List Str), vs = [.ref p] ∧ SqA K H p (as.map V.ref) ∧ RsAt K Z H as rs ∧ rs.length ≤ 40 ∧ (∀ z ∈ namesOf rs, z ∈ W) ∧ W.length ≤ 24 ∧ ∀ H', Ex H H' → Q (.bl true) H'
def sp_wanted_base (K : PySem.W.Frag) (Z : Ads) : Sp := fun vs H Q _ => ∃ (p : Addr) (as : List Addr) (rs : List PR) (W : List Str), vs = [.ref p] ∧ SqA K H p (as.map V.ref) ∧ RsAt K Z H as rs ∧ rs.length ≤ 40 ∧ (∀ z ∈ namesOf rs, z ∈ W) ∧ W.length ≤ 24 ∧
  ∀ r H', Ex H H' → H' r = some (.lst (as.map V.ref)) → Q (.ref r) H'
def sp_wanted_plain (K : PySem.W.Frag) (Z : Ads) : Sp := sp_wanted_base K Z
def sp_wanted_beside (K : PySem.W.Frag) (Z : Ads) : Sp := fun vs H Q _ => ∃ (q p : Addr) (as : List Addr) (rs : List PR) (ss W : List Str), vs = [.ref q, .ref p, .int 24] ∧ SqA K H q (ss.map V.str) ∧ SqA K H p (as.map V.ref) ∧ RsAt K Z H as rs ∧ rs.length ≤ 40 ∧
  (∀ z ∈ namesOf rs, z ∈ W) ∧ (∀ z ∈ ss, z ∈ W) ∧ W.length ≤ 24 ∧ Names ss ∧ ss.Nodup ∧ ∀ r H', Ex H H' → SqT K H' r (ss.map V.str) → Q (.ref r) H'
def sp_wanted (K : PySem.W.Frag) (Z : Ads) : Sp := fun vs H Q _ => ∃ (p q : Addr) (as : List Addr) (rs : List PR) (ss W : List Str), vs = [.ref p, .ref q] ∧ SqA K H p (as.map V.ref) ∧ RsAt K Z H as rs ∧ SqA K H q (ss.map V.str) ∧ rs.length ≤ 40 ∧
  (∀ z ∈ namesOf rs, z ∈ W) ∧ (∀ z ∈ ss, z ∈ W) ∧ W.length ≤ 24 ∧ Names ss ∧ ss.Nodup ∧ ∀ t b g H', Ex H H' → H' t = some (.tup [.ref b, .ref g]) → H' b = some (.lst (as.map V.ref)) → SqT K H' g (ss.map V.str) → Q (.ref t) H'
def sp_has_all (K : PySem.W.Frag) : Sp := fun vs H Q _ => ∃ (d q : Addr) (F : TD) (ss : List Str), vs = [.ref d, .ref q] ∧ H d = some (.dK (dkv F)) ∧ SqA K H q (ss.map V.str) ∧ ss.length ≤ 1000 ∧ ∀ H', Ex H H' → Q (.bl (ss.all fun x => decide (x ∈ keysF F))) H'
def sp_next_heads (K : PySem.W.Frag) (Z : Ads) : Sp := fun vs H Q _ => ∃ (b d : Addr) (as : List Addr) (rs : List PR) (F : TD), vs = [.ref b, .ref d] ∧ H b = some (.lst (as.map V.ref)) ∧ RsAt K Z H as rs ∧ rs.length ≤ 40 ∧ H d = some (.dK (dkv F)) ∧
  ∀ r H', H r = none → Ex H H' → H' r = some (.lst ((nextS rs (keysF F)).map V.str)) → Q (.ref r) H'
def sp_rounds (K : PySem.W.Frag) (Z : Ads) : Sp := fun vs H Q _ => ∃ (b g : Addr) (as : List Addr) (rs : List PR) (ss W : List Str), vs = [.ref b, .ref g] ∧ H b = some (.lst (as.map V.ref)) ∧ RsAt K Z H as rs ∧ rs.length ≤ 40 ∧ SqT K H g (ss.map V.str) ∧
  (∀ z ∈ namesOf rs, z ∈ W) ∧ (∀ z ∈ ss, z ∈ W) ∧ W.length ≤ 24 ∧ ss.Nodup ∧ ∀ d H', Ex H H' → H' d = some (.dK (dkv (levF rs ss))) → Q (.ref d) H'
/-- whether some never has all its body among these -/
def neverIn (rs : List PR) (ks : List Str) : Bool := rs.any fun r => decide (r.1 = V.non) && r.2.all fun x => decide (x ∈ ks)
def sp_first_never (K : PySem.W.Frag) (Z : Ads) : Sp := fun vs H Q _ => ∃ (b d : Addr) (as : List Addr) (rs : List PR) (F : TD), vs = [.ref b, .ref d] ∧ H b = some (.lst (as.map V.ref)) ∧ RsAt K Z H as rs ∧ rs.length ≤ 40 ∧ H d = some (.dK (dkv F)) ∧
  ∀ v H', Ex H H' → (v = .non ∧ neverIn rs (keysF F) = false ∨ (∃ n : Nat, v = .int (n : Nat)) ∧ neverIn rs (keysF F) = true) → Q v H'
def sp_held (K : PySem.W.Frag) (Z : Ads) : Sp := fun vs H Q _ => ∃ (p q : Addr) (as : List Addr) (rs : List PR) (ss W : List Str), vs = [.ref p, .ref q] ∧ SqA K H p (as.map V.ref) ∧ RsAt K Z H as rs ∧ SqA K H q (ss.map V.str) ∧ rs.length ≤ 40 ∧
  (∀ z ∈ namesOf rs, z ∈ W) ∧ (∀ z ∈ ss, z ∈ W) ∧ W.length ≤ 24 ∧ Names ss ∧ ss.Nodup ∧ ∀ (ys : List Str) r H', Ex H H' → H r = none → ys.Perm (keysF (levF rs ss)) → sortedS ys = true → H' r = some (.lst (ys.map V.str)) → Q (.ref r) H'
def sp_clash (K : PySem.W.Frag) (Z : Ads) : Sp := fun vs H Q _ => ∃ (p q : Addr) (as : List Addr) (rs : List PR) (ss W : List Str), vs = [.ref p, .ref q] ∧ SqA K H p (as.map V.ref) ∧ RsAt K Z H as rs ∧ SqA K H q (ss.map V.str) ∧ rs.length ≤ 40 ∧
  (∀ z ∈ namesOf rs, z ∈ W) ∧ (∀ z ∈ ss, z ∈ W) ∧ W.length ≤ 24 ∧ Names ss ∧ ss.Nodup ∧ ∀ H', Ex H H' → Q (.bl (neverIn rs (keysF (levF rs ss)))) H'
/-! ### the law's own -/
def sp__law_begun (P : Program) (w : World) (K : PySem.W.Frag) : Sp := sp_beg P w K
def sp__law_take (P : Program) (w : World) (K : PySem.W.Frag) : Sp := sp_tak P w K
def sp__law_kept (K : PySem.W.Frag) : Sp := fun vs H Q _ => vs = [] ∧ ∀ r H', H r = none → Ex H H' → H' r = some (.lst (taken.map V.str)) → Q (.ref r) H'
/-- words that are used: the kept ones among them, all of letters -/
def Used (us : List Str) : Prop := (∀ z ∈ taken, z ∈ us) ∧ us.length ≤ 60 ∧ ∀ z ∈ us, (1 ≤ z.length ∧ z.length ≤ 8) ∧ ∀ c ∈ z.cps.toList, isLet c = true
def sp__law_name (P : Program) (w : World) (K : PySem.W.Frag) : Sp := fun vs H Q _ => ∃ (st u : Addr) (us : List Str), vs = [.ref st, .ref u] ∧ Stt P w K H st ∧ H u = some (.lst (us.map V.str)) ∧ Used us ∧
  ∀ z H', nameS z = true → z ∉ us → Exb u H H' → H' u = some (.lst ((us ++ [z]).map V.str)) → Stt P w K H' st → Q (.str z) H'
def sp__law_names (P : Program) (w : World) (K : PySem.W.Frag) : Sp := fun vs H Q _ => ∃ (st u : Addr) (us : List Str) (m : Nat), vs = [.ref st, .ref u, .int (m : Nat)] ∧ Stt P w K H st ∧ H u = some (.lst (us.map V.str)) ∧ Used us ∧ us.length + m ≤ 60 ∧
  ∀ (zs : List Str) r H', zs.length = m → zs.Nodup → Names zs → (∀ z ∈ zs, z ∉ us) → H r = none → r ≠ u → Exb u H H' → H' r = some (.lst (zs.map V.str)) → H' u = some (.lst ((us ++ zs).map V.str)) → Stt P w K H' st → Q (.ref r) H'
/-- a rule as a pair: its head, or None, and its body -/
def PairAt (H : Hp) (t : Addr) (r : PR) : Prop := ∃ b, H t = some (.tup [r.1, .ref b]) ∧ H b = some (.tup (r.2.map V.str)) ∧ goodR r.1 (some (r.2.map V.str)) (some []) = true
def PsAt (H : Hp) : List Addr → List PR → Prop
  | [], [] => True
  | t :: ts, r :: rs => PairAt H t r ∧ PsAt H ts rs
  | _, _ => False
def sp__law_pair (P : Program) (w : World) (K : PySem.W.Frag) : Sp := fun vs H Q _ => ∃ (st p : Addr) (ss : List Str), vs = [.ref st, .ref p] ∧ Stt P w K H st ∧ H p = some (.lst (ss.map V.str)) ∧ Names ss ∧ ss.Nodup ∧ 1 ≤ ss.length ∧ ss.length ≤ 60 ∧
  ∀ t r H', Ex H H' → PairAt H' t r → (∀ z ∈ headsOf r.1 ++ r.2, z ∈ ss) → Q (.ref t) H'
def sp__law_pairs (P : Program) (w : World) (K : PySem.W.Frag) : Sp := fun vs H Q _ => ∃ (st p : Addr) (ss : List Str) (m : Nat), vs = [.ref st, .ref p, .int (m : Nat)] ∧ Stt P w K H st ∧ H p = some (.lst (ss.map V.str)) ∧ Names ss ∧ ss.Nodup ∧ 1 ≤ ss.length ∧ ss.length ≤ 60 ∧ m ≤ 40 ∧
  ∀ q ts rs H', Ex H H' → H' q = some (.lst (ts.map V.ref)) → PsAt H' ts rs → rs.length ≤ m → (∀ z ∈ namesOf rs, z ∈ ss) → Q (.ref q) H'
def sp__law_some (P : Program) (w : World) (K : PySem.W.Frag) : Sp := fun vs H Q _ => ∃ (st p : Addr) (ss : List Str), vs = [.ref st, .ref p] ∧ Stt P w K H st ∧ H p = some (.lst (ss.map V.str)) ∧ ss.Nodup ∧ ss.length ≤ 60 ∧
  ∀ (xs : List Str) q H', Ex H H' → H' q = some (.lst (xs.map V.str)) → xs.Nodup → (∀ z ∈ xs, z ∈ ss) → Q (.ref q) H'
def sp__law_held (K : PySem.W.Frag) : Sp := fun vs H Q _ => ∃ (pp ps : Addr) (ts : List Addr) (rs : List PR) (ss W : List Str), vs = [.ref pp, .ref ps] ∧ H pp = some (.lst (ts.map V.ref)) ∧ PsAt H ts rs ∧ rs.length ≤ 40 ∧ H ps = some (.lst (ss.map V.str)) ∧
  (∀ z ∈ namesOf rs, z ∈ W) ∧ (∀ z ∈ ss, z ∈ W) ∧ W.length ≤ 24 ∧ Names ss ∧ ss.Nodup ∧ ∀ (fs : List Str) d H', Ex H H' → H d = none → LeastS rs ss fs → H' d = some (.lst (fs.map V.str)) → Q (.ref d) H'
def sp__law_same0 (K : PySem.W.Frag) : Sp := fun vs H Q _ => ∃ x y : Str, vs = [.str x, .str y] ∧ ∀ H', Ex H H' → Q (.bl (decide (x = y))) H'
def sp__law_same (K : PySem.W.Frag) : Sp := fun vs H Q _ => ∃ (p q : Addr) (xs ys : List Str), vs = [.ref p, .ref q] ∧ H p = some (.lst (xs.map V.str)) ∧ H q = some (.lst (ys.map V.str)) ∧ xs.length ≤ 1000 ∧ ys.length ≤ 1000 ∧ ∀ H', Ex H H' → Q (.bl (decide (xs = ys))) H'
def sp__law_clash (K : PySem.W.Frag) : Sp := fun vs H Q _ => ∃ (pp pn : Addr) (ts : List Addr) (rs : List PR) (ns : List Str), vs = [.ref pp, .ref pn] ∧ H pp = some (.lst (ts.map V.ref)) ∧ PsAt H ts rs ∧ rs.length ≤ 40 ∧ H pn = some (.lst (ns.map V.str)) ∧ ns.length ≤ 1000 ∧ ∀ H', Ex H H' → Q (.bl (neverIn rs ns)) H'
def sp__law_turned (P : Program) (w : World) (K : PySem.W.Frag) : Sp := fun vs H Q _ => ∃ (st pp : Addr) (ts : List Addr) (rs : List PR) (W : List Str), vs = [.ref st, .ref pp] ∧ Stt P w K H st ∧ H pp = some (.lst (ts.map V.ref)) ∧ PsAt H ts rs ∧ rs.length ≤ 38 ∧ (∀ z ∈ namesOf rs, z ∈ W) ∧
  ∀ q ts' rs' H', Ex H H' → H' q = some (.lst (ts'.map V.ref)) → PsAt H' ts' rs' → rs'.length ≤ 40 → (∀ z ∈ namesOf rs', z ∈ W) → Q (.ref q) H'
def sp__law_right (K : PySem.W.Frag) (Z : Ads) : Sp := fun vs H Q _ => ∃ (pp ps : Addr) (ts : List Addr) (rs : List PR) (ss W : List Str), vs = [.ref pp, .ref ps] ∧ H pp = some (.lst (ts.map V.ref)) ∧ PsAt H ts rs ∧ rs.length ≤ 40 ∧ H ps = some (.lst (ss.map V.str)) ∧
  (∀ z ∈ namesOf rs, z ∈ W) ∧ (∀ z ∈ ss, z ∈ W) ∧ W.length ≤ 24 ∧ Names ss ∧ ss.Nodup ∧ ∀ H', Ex H H' → Q (.bl true) H'
def sp_law (P : Program) (w : World) (K : PySem.W.Frag) (Z : Ads) : Sp := fun vs H Q _ => ∃ (a : Addr) (ns : List Int), vs = [.ref a] ∧ SqF K H a (ns.map V.int) ∧ ns.length ≤ 63 ∧ ∀ H', Q (.bl true) H'

end K11

set_option maxHeartbeats 800000
namespace K11
open PySem PySem.Spec PyProof.Rows L2 Evl Gx
section
variable {P : Program} {w : World} {K : PySem.W.Frag} {mg : Str → Option Value} {base : Heap} {Z : Ads}
def t_is_small_letter (K : PySem.W.Frag) (Z : Ads)  : TS :=
    (tRet (tChain gLe gLe (tC (.str "a")) (tVar 0) (tC (.str "z"))))
theorem d_is_small_letter {f : Addr} {cdv : Value} {A : Around} {outer : List Env} {s : Shared} {H : Hp} {E : XK}   (hr : Room 0 (A.deeper (envOfC "is_small_letter" (defScope s_is_small_letter) s.heap.objs.size f cdv))) :
  PSs (cxOf CX0 P w K mg base ["sign"] "is_small_letter" (defScope s_is_small_letter) f cdv A outer s H E).nox (defBody s_is_small_letter) (t_is_small_letter K Z ) :=
    (pss_one (ps_ret (pe_chain op_gLe op_gLe pe_str (pv 0) pe_str)))

def t_is_name (K : PySem.W.Frag) (Z : Ads) (v_LONGEST_NAME : V) (v_TAKEN_WORDS : V) : TS :=
    (tSeq (tIfS (tOr (tNot (tB (tCB (gIsi K) (tCons (tVar 0) (tCons (tC (.ty "str")) tNil))))) (tNot (tTest (tChain gLe gLe (tC (.int 1)) (tCB (gLen K) (tCons (tVar 0) tNil)) (tC v_LONGEST_NAME))))) (tRet (tC (.bl false))) tNext)
    (tRet (tAndV (tOp (gNi K) (tVar 0) (tC v_TAKEN_WORDS)) (tCB (rAll K) (tCons (tLc (iStr (tVar 0)) (gName 1) tYes (tCall (sp_is_small_letter K) [] E0 (tCons (tVar 1) tNil)) [1]) tNil)))))
theorem d_is_name {f : Addr} {cdv : Value} {A : Around} {outer : List Env} {s : Shared} {H : Hp} {E : XK} {v_LONGEST_NAME : V} {v_TAKEN_WORDS : V} (C_is_small_letter : Cal P w K mg base CX0 1 "is_small_letter" ["sign"] [] (sp_is_small_letter K)) {u_LONGEST_NAME : Value} (m_LONGEST_NAME : mg "LONGEST_NAME" = some u_LONGEST_NAME) (r_LONGEST_NAME : RelV v_LONGEST_NAME u_LONGEST_NAME) {u_TAKEN_WORDS : Value} (m_TAKEN_WORDS : mg "TAKEN_WORDS" = some u_TAKEN_WORDS) (r_TAKEN_WORDS : RelV v_TAKEN_WORDS u_TAKEN_WORDS) (n_all : mg "all" = none) (n_isinstance : mg "isinstance" = none) (n_len : mg "len" = none) (n_str : mg "str" = none) (hr : Room 1 (A.deeper (envOfC "is_name" (defScope s_is_name) s.heap.objs.size f cdv))) :
  PSs (cxOf CX0 P w K mg base ["thing", "sign"] "is_name" (defScope s_is_name) f cdv A outer s H E).nox (defBody s_is_name) (t_is_name K Z v_LONGEST_NAME v_TAKEN_WORDS) :=
    (pss_cons (ps_if (PW.pt (pw_or (pt_not (pt_val (pe_callB call_gIsi (by rfl) n_isinstance (by decide +kernel) (pa_cons (pv 0) (pa_cons (pe_bltn (v := .ty "str") (by rfl) n_str (by decide +kernel) rfl) pa_nil))))) (pw_or1 (pt_not (pt_chain op_gLe op_gLe pe_int (pe_callB call_gLen (by rfl) n_len (by decide +kernel) (pa_cons (pv 0) pa_nil)) (pe_glob (by rfl) m_LONGEST_NAME r_LONGEST_NAME)))))) (pss_one (ps_ret pe_bl)) pss_nil)
    (pss_one (ps_ret (pe_and (pe_cmpR op_gNi (pv 0) (pe_glob (by rfl) m_TAKEN_WORDS r_TAKEN_WORDS) (by rfl)) (pe_one (pe_callB (cr_all rfl) (by rfl) n_all (by decide +kernel) (pa_cons (pe_lc (own := [("sign", 1)]) (g := gName 1) (tt := tYes) rfl sc_is_name.nd (pi_str (pv 0)) (blkOk_by (own := [("sign", 1)]) (N := ["thing", "sign"]) (sc := defScope s_is_name) (by first | decide +kernel | exact rfl)) (fun _ _ _ _ _ => pg_name (i := 1) sc_is_name.nd rfl (Or.inl rfl)) (fun _ _ _ _ _ => pts_nil) (fun _ _ _ _ _ => (pe_cal C_is_small_letter (hr.mono (by decide)) (by rfl) pass0 (pa_cons (pv 1) pa_nil)))) pa_nil)))))))

def t_is_names (K : PySem.W.Frag) (Z : Ads)  : TS :=
    (tSeq (tIfS (tOr (tNot (tB (tCB (gIsi K) (tCons (tVar 0) (tCons (tTup (tCons (tC (.ty "list")) (tCons (tC (.ty "tuple")) tNil))) tNil))))) (tTest (tOp gGt (tCB (gLen K) (tCons (tVar 0) tNil)) (tVar 1)))) (tRet (tC (.bl false))) tNext)
    (tRet (tAndV (tCB (rAll K) (tCons (tLc (iOr (iList K (tVar 0)) (iTup K (tVar 0))) (gName 2) tYes (tCall (sp_is_name K) [] E0 (tCons (tVar 2) tNil)) [2]) tNil)) (tOp (gEq K) (tLenSetS K (tVar 0)) (tCB (gLen K) (tCons (tVar 0) tNil))))))
theorem d_is_names {f : Addr} {cdv : Value} {A : Around} {outer : List Env} {s : Shared} {H : Hp} {E : XK}  (C_is_name : Cal P w K mg base CX0 2 "is_name" ["thing"] [] (sp_is_name K)) (n_all : mg "all" = none) (n_isinstance : mg "isinstance" = none) (n_len : mg "len" = none) (n_list : mg "list" = none) (n_set : mg "set" = none) (n_tuple : mg "tuple" = none) (hr : Room 2 (A.deeper (envOfC "is_names" (defScope s_is_names) s.heap.objs.size f cdv))) :
  PSs (cxOf CX0 P w K mg base ["thing", "most", "one"] "is_names" (defScope s_is_names) f cdv A outer s H E).nox (defBody s_is_names) (t_is_names K Z ) :=
    (pss_cons (ps_if (PW.pt (pw_or (pt_not (pt_val (pe_callB call_gIsi (by rfl) n_isinstance (by decide +kernel) (pa_cons (pv 0) (pa_cons (pe_tup (pa_cons (pe_bltn (v := .ty "list") (by rfl) n_list (by decide +kernel) rfl) (pa_cons (pe_bltn (v := .ty "tuple") (by rfl) n_tuple (by decide +kernel) rfl) pa_nil))) pa_nil))))) (pw_or1 (pt_cmpR op_gGt (pe_callB call_gLen (by rfl) n_len (by decide +kernel) (pa_cons (pv 0) pa_nil)) (pv 1) (by rfl))))) (pss_one (ps_ret pe_bl)) pss_nil)
    (pss_one (ps_ret (pe_and (pe_callB (cr_all rfl) (by rfl) n_all (by decide +kernel) (pa_cons (pe_lc (own := [("one", 2)]) (g := gName 2) (tt := tYes) rfl sc_is_names.nd (pi_or (pi_list (pv 0)) (pi_tup (pv 0))) (blkOk_by (own := [("one", 2)]) (N := ["thing", "most", "one"]) (sc := defScope s_is_names) (by first | decide +kernel | exact rfl)) (fun _ _ _ _ _ => pg_name (i := 2) sc_is_names.nd rfl (Or.inl rfl)) (fun _ _ _ _ _ => pts_nil) (fun _ _ _ _ _ => (pe_cal C_is_name (hr.mono (by decide)) (by rfl) pass0 (pa_cons (pv 2) pa_nil)))) pa_nil)) (pe_one (pe_cmpR (op_gEq hr.units) (pe_lenSetS (by rfl) n_len (by rfl) n_set (pv 0)) (pe_callB call_gLen (by rfl) n_len (by decide +kernel) (pa_cons (pv 0) pa_nil)) (by rfl)))))))

def t_wanted_names (K : PySem.W.Frag) (Z : Ads)  : TS :=
    (tSeq (tIfS (tNot (tB (tCall (sp_is_names K) [] E0 (tCons (tVar 0) (tCons (tVar 1) tNil))))) tDeadS tNext)
    (tRet (tCB (rTupleS K) (tCons (tVar 0) tNil))))
theorem d_wanted_names {f : Addr} {cdv : Value} {A : Around} {outer : List Env} {s : Shared} {H : Hp} {E : XK}  (C_is_names : Cal P w K mg base CX0 3 "is_names" ["thing", "most"] [] (sp_is_names K)) (n_tuple : mg "tuple" = none) (hr : Room 3 (A.deeper (envOfC "wanted_names" (defScope s_wanted_names) s.heap.objs.size f cdv))) :
  PSs (cxOf CX0 P w K mg base ["thing", "most"] "wanted_names" (defScope s_wanted_names) f cdv A outer s H E).nox (defBody s_wanted_names) (t_wanted_names K Z ) :=
    (pss_cons (ps_if (pt_not (pt_val (pe_cal C_is_names (hr.mono (by decide)) (by rfl) pass0 (pa_cons (pv 0) (pa_cons (pv 1) pa_nil))))) (pss_one ps_dead) pss_nil)
    (pss_one (ps_ret (pe_callTy call_tuple1 (by rfl) n_tuple (by decide +kernel) (pa_cons (pv 0) pa_nil)))))

def t_Rule___init__ (K : PySem.W.Frag) (Z : Ads) (E : XK) (v_MOST_BODY : V) (v_MOST_UNLESS : V) : TS :=
    (tSeq (tIfS (tAnd (tTest (tOp rNotN (tVar 1) (tC .non))) (tNot (tB (tCall (sp_is_name K) [] E0 (tCons (tVar 1) tNil))))) (tRaiseO Z.BadRule (fun cls d _ H => E cls d H)) tNext)
    (tSeq (tIfS (tNot (tB (tCall (sp_is_names K) [] E0 (tCons (tVar 2) (tCons (tC v_MOST_BODY) tNil))))) (tRaiseO Z.BadRule (fun cls d _ H => E cls d H)) tNext)
    (tSeq (tIfS (tNot (tB (tCall (sp_is_names K) [] E0 (tCons (tVar 3) (tCons (tC v_MOST_UNLESS) tNil))))) (tRaiseO Z.BadRule (fun cls d _ H => E cls d H)) tNext)
    (tSeq (sFld K (tVar 0) (tVar 1) "head")
    (tSeq (sFld K (tVar 0) (tCB (rTupleS K) (tCons (tVar 2) tNil)) "body")
    (sFld K (tVar 0) (tCB (rTupleS K) (tCons (tVar 3) tNil)) "unless"))))))
theorem d_Rule___init__ {f : Addr} {cdv : Value} {A : Around} {outer : List Env} {s : Shared} {H : Hp} {E : XK} {v_MOST_BODY : V} {v_MOST_UNLESS : V} (C_is_name : Cal P w K mg base CX0 2 "is_name" ["thing"] [] (sp_is_name K)) (C_is_names : Cal P w K mg base CX0 3 "is_names" ["thing", "most"] [] (sp_is_names K)) (X_BadRule : ExC K mg "BadRule" Z.BadRule) {u_MOST_BODY : Value} (m_MOST_BODY : mg "MOST_BODY" = some u_MOST_BODY) (r_MOST_BODY : RelV v_MOST_BODY u_MOST_BODY) {u_MOST_UNLESS : Value} (m_MOST_UNLESS : mg "MOST_UNLESS" = some u_MOST_UNLESS) (r_MOST_UNLESS : RelV v_MOST_UNLESS u_MOST_UNLESS) (n_tuple : mg "tuple" = none) (hr : Room 3 (A.deeper (envOfC "Rule.__init__" (defScope s_Rule___init__) s.heap.objs.size f cdv))) :
  PSs (cxOf (L2.CX P w) P w K mg base ["self", "head", "body", "unless"] "Rule.__init__" (defScope s_Rule___init__) f cdv A outer s H E) (defBody s_Rule___init__) (t_Rule___init__ K Z E v_MOST_BODY v_MOST_UNLESS) :=
    (pss_cons (ps_if (PW.pt (pw_and (pt_cmpR op_notN1 (pv 1) pe_non (by rfl)) (pw_and1 (pt_not (pt_val (pe_cal C_is_name (hr.mono (by decide)) (by rfl) pass0 (pa_cons (pv 1) pa_nil))))))) (pss_one (ps_raise rfl (takes_of rfl rfl rfl rfl) (pmk_own PySem.F.excBase_ValueError X_BadRule.x X_BadRule.g X_BadRule.k X_BadRule.r (by exact rfl)))) pss_nil)
    (pss_cons (ps_if (pt_not (pt_val (pe_cal C_is_names (hr.mono (by decide)) (by rfl) pass0 (pa_cons (pv 2) (pa_cons (pe_glob (by rfl) m_MOST_BODY r_MOST_BODY) pa_nil))))) (pss_one (ps_raise rfl (takes_of rfl rfl rfl rfl) (pmk_own PySem.F.excBase_ValueError X_BadRule.x X_BadRule.g X_BadRule.k X_BadRule.r (by exact rfl)))) pss_nil)
    (pss_cons (ps_if (pt_not (pt_val (pe_cal C_is_names (hr.mono (by decide)) (by rfl) pass0 (pa_cons (pv 3) (pa_cons (pe_glob (by rfl) m_MOST_UNLESS r_MOST_UNLESS) pa_nil))))) (pss_one (ps_raise rfl (takes_of rfl rfl rfl rfl) (pmk_own PySem.F.excBase_ValueError X_BadRule.x X_BadRule.g X_BadRule.k X_BadRule.r (by exact rfl)))) pss_nil)
    (pss_cons (ps_fld (pv 0) (pv 1) rfl)
    (pss_cons (ps_fld (pv 0) (pe_callTy call_tuple1 (by rfl) n_tuple (by decide +kernel) (pa_cons (pv 2) pa_nil)) rfl)
    (pss_one (ps_fld (pv 0) (pe_callTy call_tuple1 (by rfl) n_tuple (by decide +kernel) (pa_cons (pv 3) pa_nil)) rfl)))))))

def t_Rule_told (K : PySem.W.Frag) (Z : Ads)  : TS :=
    (tRet (tTup (tCons (tC (.str "rule")) (tCons (tFld K (tVar 0) "head") (tCons (tFld K (tVar 0) "body") (tCons (tFld K (tVar 0) "unless") tNil))))))
theorem d_Rule_told {f : Addr} {cdv : Value} {A : Around} {outer : List Env} {s : Shared} {H : Hp} {E : XK}   (hr : Room 0 (A.deeper (envOfC "Rule.told" (defScope s_Rule_told) s.heap.objs.size f cdv))) :
  PSs (cxOf CX0 P w K mg base ["self"] "Rule.told" (defScope s_Rule_told) f cdv A outer s H E).nox (defBody s_Rule_told) (t_Rule_told K Z ) :=
    (pss_one (ps_ret (pe_tup (pa_cons pe_str (pa_cons (pe_fld (pv 0) rfl) (pa_cons (pe_fld (pv 0) rfl) (pa_cons (pe_fld (pv 0) rfl) pa_nil)))))))

def t_names_in (K : PySem.W.Frag) (Z : Ads)  : TS :=
    (tSeq (tAsg (tDc (iOr (iList K (tVar 1)) (iTup K (tVar 1))) (gName 2) tYes (tVar 2) (tC (.bl true)) [2]) (gName 3))
    (tSeq (tFor (iOr (iList K (tVar 0)) (iTup K (tVar 0))) (gName 4) (tFor (iTup K (tTup (tCons (tFld K (tVar 4) "head") (StX.tStar K (tFld K (tVar 4) "body") (StX.tStar K (tFld K (tVar 4) "unless") tNil))))) (gName 2) (tIfS (tTest (tOp rNotN (tVar 2) (tC .non))) (sDPut (tVar 3) (tVar 2) (tC (.bl true))) tNext)))
    (tRet (tCB (gSorted K) (tCons (tVar 3) tNil)))))
theorem d_names_in {f : Addr} {cdv : Value} {A : Around} {outer : List Env} {s : Shared} {H : Hp} {E : XK}  (n_sorted : mg "sorted" = none) (hr : Room 0 (A.deeper (envOfC "names_in" (defScope s_names_in) s.heap.objs.size f cdv))) :
  PSs (cxOf CX0 P w K mg base ["rules", "more", "name", "found", "rule"] "names_in" (defScope s_names_in) f cdv A outer s H E).nox (defBody s_names_in) (t_names_in K Z ) :=
    (pss_cons (ps_setDc (i := 3) (own := [("name", 2)]) (g := gName 2) (tt := tYes) rfl sc_names_in.nd rfl rfl (sw_trueD rfl rfl rfl (by decide +kernel)) (pi_or (pi_list (pv 1)) (pi_tup (pv 1))) (blkOk_by (own := [("name", 2)]) (N := ["rules", "more", "name", "found", "rule"]) (sc := defScope s_names_in) (by decide +kernel)) (fun _ _ _ _ _ => pg_name (i := 2) sc_names_in.nd rfl (Or.inl rfl)) (fun _ _ _ _ _ => pts_nil) (fun _ _ _ _ _ => (pv 2)) (fun _ _ _ _ _ => pe_bl))
    (pss_cons (ps_for PassesOwn.never rfl (pi_or (pi_list (pv 0)) (pi_tup (pv 0))) (pg_name (i := 4) sc_names_in.nd rfl (Or.inl rfl)) (pss_one (ps_for PassesOwn.never rfl (pi_tup (pe_tup (pa_cons (pe_fld (pv 4) rfl) (StX.pa_star (pe_fld (pv 4) rfl) (StX.pa_star (pe_fld (pv 4) rfl) pa_nil))))) (pg_name (i := 2) sc_names_in.nd rfl (Or.inl rfl)) (pss_one (ps_if (pt_cmpR op_notN1 (pv 2) pe_non (by rfl)) (pss_one (ps_dput (room1 hr) (pv 3) (pv 2) pe_bl (by rfl))) pss_nil)))))
    (pss_one (ps_ret (pe_callB (call_gSorted rfl) (by rfl) n_sorted (by decide +kernel) (pa_cons (pv 3) pa_nil))))))

def t_is_base (K : PySem.W.Frag) (Z : Ads) (v_MOST_NAMES : V) (v_MOST_RULES : V) : TS :=
    (tSeq (tIfS (tOr (tNot (tB (tCB (gIsi K) (tCons (tVar 0) (tCons (tTup (tCons (tC (.ty "list")) (tCons (tC (.ty "tuple")) tNil))) tNil))))) (tTest (tOp gGt (tCB (gLen K) (tCons (tVar 0) tNil)) (tC v_MOST_RULES)))) (tRet (tC (.bl false))) tNext)
    (tRet (tAndV (tCB (rAll K) (tCons (tLc (iOr (iList K (tVar 0)) (iTup K (tVar 0))) (gName 1) tYes (tCB (gIsi K) (tCons (tVar 1) (tCons (tC (.ref Z.Rule)) tNil))) [1]) tNil)) (tOp gLe (tCB (gLen K) (tCons (tCall (sp_names_in K Z) [.ref Z.Desk] E0 (tCons (tVar 0) tNil)) tNil)) (tC v_MOST_NAMES)))))
theorem d_is_base {f : Addr} {cdv : Value} {A : Around} {outer : List Env} {s : Shared} {H : Hp} {E : XK} {v_MOST_NAMES : V} {v_MOST_RULES : V} (C_names_in_1 : Cal P w K mg base CX0 1 "names_in" ["rules", "more"] [.ref Z.Desk] (sp_names_in K Z)) (c_Rule : mg "Rule" = some (.ref Z.Rule)) {u_MOST_NAMES : Value} (m_MOST_NAMES : mg "MOST_NAMES" = some u_MOST_NAMES) (r_MOST_NAMES : RelV v_MOST_NAMES u_MOST_NAMES) {u_MOST_RULES : Value} (m_MOST_RULES : mg "MOST_RULES" = some u_MOST_RULES) (r_MOST_RULES : RelV v_MOST_RULES u_MOST_RULES) (n_all : mg "all" = none) (n_isinstance : mg "isinstance" = none) (n_len : mg "len" = none) (n_list : mg "list" = none) (n_tuple : mg "tuple" = none) (hr : Room 1 (A.deeper (envOfC "is_base" (defScope s_is_base) s.heap.objs.size f cdv))) :
  PSs (cxOf CX0 P w K mg base ["thing", "one"] "is_base" (defScope s_is_base) f cdv A outer s H E).nox (defBody s_is_base) (t_is_base K Z v_MOST_NAMES v_MOST_RULES) :=
    (pss_cons (ps_if (PW.pt (pw_or (pt_not (pt_val (pe_callB call_gIsi (by rfl) n_isinstance (by decide +kernel) (pa_cons (pv 0) (pa_cons (pe_tup (pa_cons (pe_bltn (v := .ty "list") (by rfl) n_list (by decide +kernel) rfl) (pa_cons (pe_bltn (v := .ty "tuple") (by rfl) n_tuple (by decide +kernel) rfl) pa_nil))) pa_nil))))) (pw_or1 (pt_cmpR op_gGt (pe_callB call_gLen (by rfl) n_len (by decide +kernel) (pa_cons (pv 0) pa_nil)) (pe_glob (by rfl) m_MOST_RULES r_MOST_RULES) (by rfl))))) (pss_one (ps_ret pe_bl)) pss_nil)
    (pss_one (ps_ret (pe_and (pe_callB (cr_all rfl) (by rfl) n_all (by decide +kernel) (pa_cons (pe_lc (own := [("one", 1)]) (g := gName 1) (tt := tYes) rfl sc_is_base.nd (pi_or (pi_list (pv 0)) (pi_tup (pv 0))) (blkOk_by (own := [("one", 1)]) (N := ["thing", "one"]) (sc := defScope s_is_base) (by first | decide +kernel | exact rfl)) (fun _ _ _ _ _ => pg_name (i := 1) sc_is_base.nd rfl (Or.inl rfl)) (fun _ _ _ _ _ => pts_nil) (fun _ _ _ _ _ => (pe_callB call_gIsi (by rfl) n_isinstance (by decide +kernel) (pa_cons (pv 1) (pa_cons (pe_glob (by rfl) c_Rule rfl) pa_nil))))) pa_nil)) (pe_one (pe_cmpR op_gLe (pe_callB call_gLen (by rfl) n_len (by decide +kernel) (pa_cons (pe_cal C_names_in_1 (hr.mono (by decide)) (by rfl) pass0 (pa_cons (pv 0) pa_nil)) pa_nil)) (pe_glob (by rfl) m_MOST_NAMES r_MOST_NAMES) (by rfl)))))))

def t_wanted_base (K : PySem.W.Frag) (Z : Ads)  : TS :=
    (tSeq (tIfS (tNot (tB (tCall (sp_is_base K Z) [] E0 (tCons (tVar 0) tNil)))) tDeadS tNext)
    (tRet (tCB (Evl.rListS K) (tCons (tVar 0) tNil))))
theorem d_wanted_base {f : Addr} {cdv : Value} {A : Around} {outer : List Env} {s : Shared} {H : Hp} {E : XK}  (C_is_base : Cal P w K mg base CX0 2 "is_base" ["thing"] [] (sp_is_base K Z)) (n_list : mg "list" = none) (hr : Room 2 (A.deeper (envOfC "wanted_base" (defScope s_wanted_base) s.heap.objs.size f cdv))) :
  PSs (cxOf CX0 P w K mg base ["thing"] "wanted_base" (defScope s_wanted_base) f cdv A outer s H E).nox (defBody s_wanted_base) (t_wanted_base K Z ) :=
    (pss_cons (ps_if (pt_not (pt_val (pe_cal C_is_base (hr.mono (by decide)) (by rfl) pass0 (pa_cons (pv 0) pa_nil)))) (pss_one ps_dead) pss_nil)
    (pss_one (ps_ret (pe_callTy call_list1 (by rfl) n_list (by decide +kernel) (pa_cons (pv 0) pa_nil)))))

def t_wanted_plain (K : PySem.W.Frag) (Z : Ads)  : TS :=
    (tSeq (tAsg (tCall (sp_wanted_base K Z) [] E0 (tCons (tVar 0) tNil)) (gName 1))
    (tSeq (tIfS (tB (tCB (rAny K) (tCons (tLc (iList K (tVar 1)) (gName 2) tYes (tOp (gNe K) (tFld K (tVar 2) "unless") (tTup tNil)) [2]) tNil))) tDeadS tNext)
    (tRet (tVar 1))))
theorem d_wanted_plain {f : Addr} {cdv : Value} {A : Around} {outer : List Env} {s : Shared} {H : Hp} {E : XK}  (C_wanted_base : Cal P w K mg base CX0 3 "wanted_base" ["thing"] [] (sp_wanted_base K Z)) (n_any : mg "any" = none) (hr : Room 3 (A.deeper (envOfC "wanted_plain" (defScope s_wanted_plain) s.heap.objs.size f cdv))) :
  PSs (cxOf CX0 P w K mg base ["thing", "base", "rule"] "wanted_plain" (defScope s_wanted_plain) f cdv A outer s H E).nox (defBody s_wanted_plain) (t_wanted_plain K Z ) :=
    (pss_cons (ps_set (i := 1) sc_wanted_plain.nd rfl (Or.inl rfl) (pe_cal C_wanted_base (hr.mono (by decide)) (by rfl) pass0 (pa_cons (pv 0) pa_nil)))
    (pss_cons (ps_if (pt_val (pe_callB (cr_any rfl) (by rfl) n_any (by decide +kernel) (pa_cons (pe_lc (own := [("rule", 2)]) (g := gName 2) (tt := tYes) rfl sc_wanted_plain.nd (pi_list (pv 1)) (blkOk_by (own := [("rule", 2)]) (N := ["thing", "base", "rule"]) (sc := defScope s_wanted_plain) (by first | decide +kernel | exact rfl)) (fun _ _ _ _ _ => pg_name (i := 2) sc_wanted_plain.nd rfl (Or.inl rfl)) (fun _ _ _ _ _ => pts_nil) (fun _ _ _ _ _ => (pe_cmpR (op_gNe hr.units) (pe_fld (pv 2) rfl) (pe_tup pa_nil) (by rfl)))) pa_nil))) (pss_one ps_dead) pss_nil)
    (pss_one (ps_ret (pv 1)))))

def t_wanted_beside (K : PySem.W.Frag) (Z : Ads) (v_MOST_NAMES : V) : TS :=
    (tSeq (tAsg (tCall (sp_wanted_names K) [] E0 (tCons (tVar 0) (tCons (tVar 2) tNil))) (gName 3))
    (tSeq (tIfS (tTest (tOp gGt (tCB (gLen K) (tCons (tCall (sp_names_in K Z) [] E0 (tCons (tVar 1) (tCons (tVar 3) tNil))) tNil)) (tC v_MOST_NAMES))) tDeadS tNext)
    (tRet (tVar 3))))
theorem d_wanted_beside {f : Addr} {cdv : Value} {A : Around} {outer : List Env} {s : Shared} {H : Hp} {E : XK} {v_MOST_NAMES : V} (C_names_in : Cal P w K mg base CX0 1 "names_in" ["rules", "more"] [] (sp_names_in K Z)) (C_wanted_names : Cal P w K mg base CX0 4 "wanted_names" ["thing", "most"] [] (sp_wanted_names K)) {u_MOST_NAMES : Value} (m_MOST_NAMES : mg "MOST_NAMES" = some u_MOST_NAMES) (r_MOST_NAMES : RelV v_MOST_NAMES u_MOST_NAMES) (n_len : mg "len" = none) (hr : Room 4 (A.deeper (envOfC "wanted_beside" (defScope s_wanted_beside) s.heap.objs.size f cdv))) :
  PSs (cxOf CX0 P w K mg base ["thing", "rules", "most", "names"] "wanted_beside" (defScope s_wanted_beside) f cdv A outer s H E).nox (defBody s_wanted_beside) (t_wanted_beside K Z v_MOST_NAMES) :=
    (pss_cons (ps_set (i := 3) sc_wanted_beside.nd rfl (Or.inl rfl) (pe_cal C_wanted_names (hr.mono (by decide)) (by rfl) pass0 (pa_cons (pv 0) (pa_cons (pv 2) pa_nil))))
    (pss_cons (ps_if (pt_cmpR op_gGt (pe_callB call_gLen (by rfl) n_len (by decide +kernel) (pa_cons (pe_cal C_names_in (hr.mono (by decide)) (by rfl) pass0 (pa_cons (pv 1) (pa_cons (pv 3) pa_nil))) pa_nil)) (pe_glob (by rfl) m_MOST_NAMES r_MOST_NAMES) (by rfl)) (pss_one ps_dead) pss_nil)
    (pss_one (ps_ret (pv 3)))))

def t_wanted (K : PySem.W.Frag) (Z : Ads)  : TS :=
    (tSeq (tAsg (tCall (sp_wanted_plain K Z) [] E0 (tCons (tVar 0) tNil)) (gName 2))
    (tRet (tTup (tCons (tVar 2) (tCons (tCall (sp_wanted_beside K Z) [.int 24] E0 (tCons (tVar 1) (tCons (tVar 2) tNil))) tNil)))))
theorem d_wanted {f : Addr} {cdv : Value} {A : Around} {outer : List Env} {s : Shared} {H : Hp} {E : XK}  (C_wanted_beside_2 : Cal P w K mg base CX0 5 "wanted_beside" ["thing", "rules", "most"] [.int 24] (sp_wanted_beside K Z)) (C_wanted_plain : Cal P w K mg base CX0 4 "wanted_plain" ["thing"] [] (sp_wanted_plain K Z)) (hr : Room 5 (A.deeper (envOfC "wanted" (defScope s_wanted) s.heap.objs.size f cdv))) :
  PSs (cxOf CX0 P w K mg base ["rules", "grounds", "base"] "wanted" (defScope s_wanted) f cdv A outer s H E).nox (defBody s_wanted) (t_wanted K Z ) :=
    (pss_cons (ps_set (i := 2) sc_wanted.nd rfl (Or.inl rfl) (pe_cal C_wanted_plain (hr.mono (by decide)) (by rfl) pass0 (pa_cons (pv 0) pa_nil)))
    (pss_one (ps_ret (pe_tup (pa_cons (pv 2) (pa_cons (pe_cal C_wanted_beside_2 (hr.mono (by decide)) (by rfl) pass0 (pa_cons (pv 1) (pa_cons (pv 2) pa_nil))) pa_nil))))))

def t_has_all (K : PySem.W.Frag) (Z : Ads)  : TS :=
    (tRet (tCB (rAll K) (tCons (tLc (iOr (iList K (tVar 1)) (iTup K (tVar 1))) (gName 2) tYes (tDIn (tVar 2) (tVar 0)) [2]) tNil)))
theorem d_has_all {f : Addr} {cdv : Value} {A : Around} {outer : List Env} {s : Shared} {H : Hp} {E : XK}  (n_all : mg "all" = none) (hr : Room 0 (A.deeper (envOfC "has_all" (defScope s_has_all) s.heap.objs.size f cdv))) :
  PSs (cxOf CX0 P w K mg base ["there", "names", "name"] "has_all" (defScope s_has_all) f cdv A outer s H E).nox (defBody s_has_all) (t_has_all K Z ) :=
    (pss_one (ps_ret (pe_callB (cr_all rfl) (by rfl) n_all (by decide +kernel) (pa_cons (pe_lc (own := [("name", 2)]) (g := gName 2) (tt := tYes) rfl sc_has_all.nd (pi_or (pi_list (pv 1)) (pi_tup (pv 1))) (blkOk_by (own := [("name", 2)]) (N := ["there", "names", "name"]) (sc := defScope s_has_all) (by first | decide +kernel | exact rfl)) (fun _ _ _ _ _ => pg_name (i := 2) sc_has_all.nd rfl (Or.inl rfl)) (fun _ _ _ _ _ => pts_nil) (fun _ _ _ _ _ => (pe_cmp (pc_din (room1 hr) (pv 2) (pv 0))))) pa_nil))))

def t_next_heads (K : PySem.W.Frag) (Z : Ads)  : TS :=
    (tRet (tLc (iList K (tVar 0)) (gName 2) (tAnd (tTest (tOp rNotN (tFld K (tVar 2) "head") (tC .non))) (tAnd (tB (tDNotIn (tFld K (tVar 2) "head") (tVar 1))) (tB (tCall (sp_has_all K) [] E0 (tCons (tVar 1) (tCons (tFld K (tVar 2) "body") tNil)))))) (tFld K (tVar 2) "head") [2]))
theorem d_next_heads {f : Addr} {cdv : Value} {A : Around} {outer : List Env} {s : Shared} {H : Hp} {E : XK}  (C_has_all : Cal P w K mg base CX0 1 "has_all" ["there", "names"] [] (sp_has_all K)) (hr : Room 1 (A.deeper (envOfC "next_heads" (defScope s_next_heads) s.heap.objs.size f cdv))) :
  PSs (cxOf CX0 P w K mg base ["rules", "there", "rule"] "next_heads" (defScope s_next_heads) f cdv A outer s H E).nox (defBody s_next_heads) (t_next_heads K Z ) :=
    (pss_one (ps_ret (pe_lc (own := [("rule", 2)]) (g := gName 2) (tt := _) rfl sc_next_heads.nd (pi_list (pv 0)) (blkOk_by (own := [("rule", 2)]) (N := ["rules", "there", "rule"]) (sc := defScope s_next_heads) (by first | decide +kernel | exact rfl)) (fun _ _ _ _ _ => pg_name (i := 2) sc_next_heads.nd rfl (Or.inl rfl)) (fun _ _ _ _ _ => (pts_one (PW.pt (pw_and (pt_cmpR op_notN1 (pe_fld (pv 2) rfl) pe_non (by rfl)) (pw_and (pt_cmp (pc_dnotin (room1 hr) (pe_fld (pv 2) rfl) (pv 1))) (pw_and1 (pt_val (pe_cal C_has_all (hr.mono (by decide)) (by rfl) pass0 (pa_cons (pv 1) (pa_cons (pe_fld (pv 2) rfl) pa_nil)))))))))) (fun _ _ _ _ _ => (pe_fld (pv 2) rfl)))))

def t_rounds (K : PySem.W.Frag) (Z : Ads)  : TS :=
    (tSeq (tAsg (tDc (iTup K (tVar 1)) (gName 2) tYes (tVar 2) (tC (.int 0)) [2]) (gName 3))
    (tSeq (tAsg (tC (.int 0)) (gName 4))
    (tSeq (tAsg (tCall (sp_next_heads K Z) [] E0 (tCons (tVar 0) (tCons (tVar 3) tNil))) (gName 5))
    (tSeq (tWhile (tTru K (tVar 5)) (tSeq (tAug 4 (tC (.int 1)) (ipI fun i j => i + j))
    (tSeq (tFor (iList K (tVar 5)) (gName 2) (sDPut (tVar 3) (tVar 2) (tVar 4)))
    (tAsg (tCall (sp_next_heads K Z) [] E0 (tCons (tVar 0) (tCons (tVar 3) tNil))) (gName 5)))))
    (tRet (tVar 3))))))
theorem d_rounds {f : Addr} {cdv : Value} {A : Around} {outer : List Env} {s : Shared} {H : Hp} {E : XK}  (C_next_heads : Cal P w K mg base CX0 2 "next_heads" ["rules", "there"] [] (sp_next_heads K Z)) (hr : Room 2 (A.deeper (envOfC "rounds" (defScope s_rounds) s.heap.objs.size f cdv))) :
  PSs (cxOf CX0 P w K mg base ["rules", "grounds", "name", "found", "number", "come"] "rounds" (defScope s_rounds) f cdv A outer s H E).nox (defBody s_rounds) (t_rounds K Z ) :=
    (pss_cons (ps_setDc (i := 3) (own := [("name", 2)]) (g := gName 2) (tt := tYes) rfl sc_rounds.nd rfl rfl (sw_trueD rfl rfl rfl (by decide +kernel)) (pi_tup (pv 1)) (blkOk_by (own := [("name", 2)]) (N := ["rules", "grounds", "name", "found", "number", "come"]) (sc := defScope s_rounds) (by decide +kernel)) (fun _ _ _ _ _ => pg_name (i := 2) sc_rounds.nd rfl (Or.inl rfl)) (fun _ _ _ _ _ => pts_nil) (fun _ _ _ _ _ => (pv 2)) (fun _ _ _ _ _ => pe_int))
    (pss_cons (ps_set (i := 4) sc_rounds.nd rfl (Or.inl rfl) pe_int)
    (pss_cons (ps_set (i := 5) sc_rounds.nd rfl (Or.inl rfl) (pe_cal C_next_heads (hr.mono (by decide)) (by rfl) pass0 (pa_cons (pv 0) (pa_cons (pv 3) pa_nil))))
    (pss_cons (ps_while PassesOwn.never (pt_truth (pv 5) (by intro _; rfl)) (pss_cons (ps_aug (i := 4) sc_rounds.nd rfl (Or.inl rfl) pe_int ip_add)
    (pss_cons (ps_for PassesOwn.never rfl (pi_list (pv 5)) (pg_name (i := 2) sc_rounds.nd rfl (Or.inl rfl)) (pss_one (ps_dput (room1 hr) (pv 3) (pv 2) (pv 4) (by rfl))))
    (pss_one (ps_set (i := 5) sc_rounds.nd rfl (Or.inl rfl) (pe_cal C_next_heads (hr.mono (by decide)) (by rfl) pass0 (pa_cons (pv 0) (pa_cons (pv 3) pa_nil))))))))
    (pss_one (ps_ret (pv 3)))))))

def t_first_never (K : PySem.W.Frag) (Z : Ads)  : TS :=
    (tSeq (tFor (iEnum K (tCons (tVar 0) tNil)) (gTup K 2 (gCons (gName 2) (gCons (gName 3) gNil))) (tIfS (tAnd (tTest (tOp rIsN (tFld K (tVar 3) "head") (tC .non))) (tB (tCall (sp_has_all K) [] E0 (tCons (tVar 1) (tCons (tFld K (tVar 3) "body") tNil))))) (tRet (tVar 2)) tNext))
    (tRet (tC .non)))
theorem d_first_never {f : Addr} {cdv : Value} {A : Around} {outer : List Env} {s : Shared} {H : Hp} {E : XK}  (C_has_all : Cal P w K mg base CX0 1 "has_all" ["there", "names"] [] (sp_has_all K)) (n_enumerate : mg "enumerate" = none) (hr : Room 1 (A.deeper (envOfC "first_never" (defScope s_first_never) s.heap.objs.size f cdv))) :
  PSs (cxOf CX0 P w K mg base ["rules", "there", "place", "rule"] "first_never" (defScope s_first_never) f cdv A outer s H E).nox (defBody s_first_never) (t_first_never K Z ) :=
    (pss_cons (ps_for PassesOwn.never rfl (pi_enum (by rfl) n_enumerate (pa_cons (pv 0) pa_nil)) (pg_tup rfl (pgs_cons (pg_name (i := 2) sc_first_never.nd rfl (Or.inl rfl)) (pgs_cons (pg_name (i := 3) sc_first_never.nd rfl (Or.inl rfl)) pgs_nil))) (pss_one (ps_if (PW.pt (pw_and (pt_cmpR op_isN1 (pe_fld (pv 3) rfl) pe_non (by rfl)) (pw_and1 (pt_val (pe_cal C_has_all (hr.mono (by decide)) (by rfl) pass0 (pa_cons (pv 1) (pa_cons (pe_fld (pv 3) rfl) pa_nil))))))) (pss_one (ps_ret (pv 2))) pss_nil)))
    (pss_one (ps_ret pe_non)))

def t_held (K : PySem.W.Frag) (Z : Ads)  : TS :=
    (tSeq (tAsg (tCall (sp_wanted K Z) [] E0 (tCons (tVar 0) (tCons (tVar 1) tNil))) (gTup K 2 (gCons (gName 2) (gCons (gName 3) gNil))))
    (tRet (tCB (gSorted K) (tCons (tCall (sp_rounds K Z) [] E0 (tCons (tVar 2) (tCons (tVar 3) tNil))) tNil))))
theorem d_held {f : Addr} {cdv : Value} {A : Around} {outer : List Env} {s : Shared} {H : Hp} {E : XK}  (C_rounds : Cal P w K mg base CX0 3 "rounds" ["rules", "grounds"] [] (sp_rounds K Z)) (C_wanted : Cal P w K mg base CX0 6 "wanted" ["rules", "grounds"] [] (sp_wanted K Z)) (n_sorted : mg "sorted" = none) (hr : Room 6 (A.deeper (envOfC "held" (defScope s_held) s.heap.objs.size f cdv))) :
  PSs (cxOf CX0 P w K mg base ["rules", "grounds", "base", "given"] "held" (defScope s_held) f cdv A outer s H E).nox (defBody s_held) (t_held K Z ) :=
    (pss_cons (ps_asg (pe_cal C_wanted (hr.mono (by decide)) (by rfl) pass0 (pa_cons (pv 0) (pa_cons (pv 1) pa_nil))) (pg_tup rfl (pgs_cons (pg_name (i := 2) sc_held.nd rfl (Or.inl rfl)) (pgs_cons (pg_name (i := 3) sc_held.nd rfl (Or.inl rfl)) pgs_nil))))
    (pss_one (ps_ret (pe_callB (call_gSorted rfl) (by rfl) n_sorted (by decide +kernel) (pa_cons (pe_cal C_rounds (hr.mono (by decide)) (by rfl) pass0 (pa_cons (pv 2) (pa_cons (pv 3) pa_nil))) pa_nil)))))

def t_clash (K : PySem.W.Frag) (Z : Ads)  : TS :=
    (tSeq (tAsg (tCall (sp_wanted K Z) [] E0 (tCons (tVar 0) (tCons (tVar 1) tNil))) (gTup K 2 (gCons (gName 2) (gCons (gName 3) gNil))))
    (tRet (tOp rNotN (tCall (sp_first_never K Z) [] E0 (tCons (tVar 2) (tCons (tCall (sp_rounds K Z) [] E0 (tCons (tVar 2) (tCons (tVar 3) tNil))) tNil))) (tC .non))))
theorem d_clash {f : Addr} {cdv : Value} {A : Around} {outer : List Env} {s : Shared} {H : Hp} {E : XK}  (C_first_never : Cal P w K mg base CX0 2 "first_never" ["rules", "there"] [] (sp_first_never K Z)) (C_rounds : Cal P w K mg base CX0 3 "rounds" ["rules", "grounds"] [] (sp_rounds K Z)) (C_wanted : Cal P w K mg base CX0 6 "wanted" ["rules", "grounds"] [] (sp_wanted K Z)) (hr : Room 6 (A.deeper (envOfC "clash" (defScope s_clash) s.heap.objs.size f cdv))) :
  PSs (cxOf CX0 P w K mg base ["rules", "grounds", "base", "given"] "clash" (defScope s_clash) f cdv A outer s H E).nox (defBody s_clash) (t_clash K Z ) :=
    (pss_cons (ps_asg (pe_cal C_wanted (hr.mono (by decide)) (by rfl) pass0 (pa_cons (pv 0) (pa_cons (pv 1) pa_nil))) (pg_tup rfl (pgs_cons (pg_name (i := 2) sc_clash.nd rfl (Or.inl rfl)) (pgs_cons (pg_name (i := 3) sc_clash.nd rfl (Or.inl rfl)) pgs_nil))))
    (pss_one (ps_ret (pe_cmpR op_notN1 (pe_cal C_first_never (hr.mono (by decide)) (by rfl) pass0 (pa_cons (pv 2) (pa_cons (pe_cal C_rounds (hr.mono (by decide)) (by rfl) pass0 (pa_cons (pv 2) (pa_cons (pv 3) pa_nil))) pa_nil))) pe_non (by rfl)))))

def t__law_begun (K : PySem.W.Frag) (Z : Ads)  : TS :=
    (tRet (tDisp (((tC (.str "cells")), (tVar 0)) :: (((tC (.str "at")), (tC (.int 0))) :: (((tC (.str "rest")), (tC (.int 0))) :: (((tC (.str "turn")), (tC (.int 0))) :: (((tC (.str "more")), (tC (.int 17))) :: [])))))))
theorem d__law_begun {f : Addr} {cdv : Value} {A : Around} {outer : List Env} {s : Shared} {H : Hp} {E : XK}   (hr : Room 0 (A.deeper (envOfC "_law_begun" (defScope s__law_begun) s.heap.objs.size f cdv))) :
  PSs (cxOf CX0 P w K mg base ["script"] "_law_begun" (defScope s__law_begun) f cdv A outer s H E).nox (defBody s__law_begun) (t__law_begun K Z ) :=
    (pss_one (ps_ret (pe_disp (pps_cons pe_str (pv 0) (pps_cons pe_str pe_int (pps_cons pe_str pe_int (pps_cons pe_str pe_int (pps_cons pe_str pe_int pps_nil))))) (by rfl) (by rfl) (fun z => by cases z) (by decide))))

def t__law_take (K : PySem.W.Frag) (Z : Ads)  : TS :=
    (tSeq (tAsg (tDGet (tVar 0) (tC (.str "cells"))) (gName 2))
    (tSeq (tWhile (tAnd (tTest (tOp gLt (tDGet (tVar 0) (tC (.str "rest"))) (tC (.int 2)))) (tTest (tOp gLt (tDGet (tVar 0) (tC (.str "at"))) (tCB (gLen K) (tCons (tVar 2) tNil))))) (tSeq (tIfS (tTest (tOp gGe (tOp (rIx K) (tVar 2) (tDGet (tVar 0) (tC (.str "at")))) (tOp (rI CPow fun i j => .int (i ^ j.toNat)) (tC (.int 10)) (tC (.int 18))))) (sDPut (tVar 0) (tC (.str "rest")) (tOp (rIx K) (tVar 2) (tDGet (tVar 0) (tC (.str "at"))))) tNext)
    (sDPut (tVar 0) (tC (.str "at")) (tOp (gAdd K) (tDGet (tVar 0) (tC (.str "at"))) (tC (.int 1))))))
    (tSeq (tIfS (tTest (tOp gGt (tDGet (tVar 0) (tC (.str "rest"))) (tC (.int 1)))) (tSeq (tAsg (tOp (rI (fun _ j => 0 < j) fun i j => .int (i % j)) (tDGet (tVar 0) (tC (.str "rest"))) (tVar 1)) (gName 3))
    (tSeq (sDPut (tVar 0) (tC (.str "rest")) (tOp (rI CDivW fun i j => .int (i / j)) (tDGet (tVar 0) (tC (.str "rest"))) (tVar 1)))
    (tRet (tVar 3)))) tNext)
    (tSeq (tAsg (tC (.int 0)) (gName 4))
    (tSeq (tIfS (tTest (tOp gGt (tCB (gLen K) (tCons (tVar 2) tNil)) (tC (.int 0)))) (tAsg (tOp (rIx K) (tVar 2) (tOp (rI (fun _ j => 0 < j) fun i j => .int (i % j)) (tDGet (tVar 0) (tC (.str "turn"))) (tCB (gLen K) (tCons (tVar 2) tNil)))) (gName 4)) tNext)
    (tSeq (sDPut (tVar 0) (tC (.str "turn")) (tOp (gAdd K) (tDGet (tVar 0) (tC (.str "turn"))) (tC (.int 1))))
    (tSeq (sDPut (tVar 0) (tC (.str "more")) (tOp (rI (fun _ j => 0 < j) fun i j => .int (i % j)) (tOp (gAdd K) (tOp (gAdd K) (tOp gMul (tDGet (tVar 0) (tC (.str "more"))) (tC (.int 48271))) (tVar 4)) (tDGet (tVar 0) (tC (.str "turn")))) (tC (.int 2147483647))))
    (tRet (tOp (rI (fun _ j => 0 < j) fun i j => .int (i % j)) (tOp (rI (fun _ j => 0 < j) fun i j => .int (i % j)) (tOp (gAdd K) (tOp gMul (tDGet (tVar 0) (tC (.str "more"))) (tDGet (tVar 0) (tC (.str "more")))) (tOp gMul (tC (.int 16807)) (tDGet (tVar 0) (tC (.str "more"))))) (tC (.int 2147483629))) (tVar 1))))))))))
theorem d__law_take {f : Addr} {cdv : Value} {A : Around} {outer : List Env} {s : Shared} {H : Hp} {E : XK}  (n_len : mg "len" = none) (hr : Room 0 (A.deeper (envOfC "_law_take" (defScope s__law_take) s.heap.objs.size f cdv))) :
  PSs (cxOf CX0 P w K mg base ["state", "many", "cells", "found", "cell"] "_law_take" (defScope s__law_take) f cdv A outer s H E).nox (defBody s__law_take) (t__law_take K Z ) :=
    (pss_cons (ps_set (i := 2) sc__law_take.nd rfl (Or.inl rfl) (pe_dget (room1 hr) (pv 0) pe_str (fun _ _ => rfl)))
    (pss_cons (ps_while PassesOwn.never (PW.pt (pw_and (pt_cmpR op_gLt (pe_dget (room1 hr) (pv 0) pe_str (fun _ _ => rfl)) pe_int (by rfl)) (pw_and1 (pt_cmpR op_gLt (pe_dget (room1 hr) (pv 0) pe_str (fun _ _ => rfl)) (pe_callB call_gLen (by rfl) n_len (by decide +kernel) (pa_cons (pv 2) pa_nil)) (by rfl))))) (pss_cons (ps_if (pt_cmpR op_gGe (pe_ix ix_seq (pv 2) (pe_dget (room1 hr) (pv 0) pe_str (fun _ _ => rfl)) (fun _ _ => rfl)) (pe_op op_pow pe_int pe_int) (by rfl)) (pss_one (ps_dput (room1 hr) (pv 0) pe_str (pe_ix ix_seq (pv 2) (pe_dget (room1 hr) (pv 0) pe_str (fun _ _ => rfl)) (fun _ _ => rfl)) (by rfl))) pss_nil)
    (pss_one (ps_dput (room1 hr) (pv 0) pe_str (pe_op op_gAdd (pe_dget (room1 hr) (pv 0) pe_str (fun _ _ => rfl)) pe_int) (by rfl)))))
    (pss_cons (ps_if (pt_cmpR op_gGt (pe_dget (room1 hr) (pv 0) pe_str (fun _ _ => rfl)) pe_int (by rfl)) (pss_cons (ps_set (i := 3) sc__law_take.nd rfl (Or.inl rfl) (pe_op op_mod (pe_dget (room1 hr) (pv 0) pe_str (fun _ _ => rfl)) (pv 1)))
    (pss_cons (ps_dput (room1 hr) (pv 0) pe_str (pe_op op_fdivW (pe_dget (room1 hr) (pv 0) pe_str (fun _ _ => rfl)) (pv 1)) (by rfl))
    (pss_one (ps_ret (pv 3))))) pss_nil)
    (pss_cons (ps_set (i := 4) sc__law_take.nd rfl (Or.inl rfl) pe_int)
    (pss_cons (ps_if (pt_cmpR op_gGt (pe_callB call_gLen (by rfl) n_len (by decide +kernel) (pa_cons (pv 2) pa_nil)) pe_int (by rfl)) (pss_one (ps_set (i := 4) sc__law_take.nd rfl (Or.inl rfl) (pe_ix ix_seq (pv 2) (pe_op op_mod (pe_dget (room1 hr) (pv 0) pe_str (fun _ _ => rfl)) (pe_callB call_gLen (by rfl) n_len (by decide +kernel) (pa_cons (pv 2) pa_nil))) (fun _ _ => rfl)))) pss_nil)
    (pss_cons (ps_dput (room1 hr) (pv 0) pe_str (pe_op op_gAdd (pe_dget (room1 hr) (pv 0) pe_str (fun _ _ => rfl)) pe_int) (by rfl))
    (pss_cons (ps_dput (room1 hr) (pv 0) pe_str (pe_op op_mod (pe_op op_gAdd (pe_op op_gAdd (pe_op op_gMul (pe_dget (room1 hr) (pv 0) pe_str (fun _ _ => rfl)) pe_int) (pv 4)) (pe_dget (room1 hr) (pv 0) pe_str (fun _ _ => rfl))) pe_int) (by rfl))
    (pss_one (ps_ret (pe_op op_mod (pe_op op_mod (pe_op op_gAdd (pe_op op_gMul (pe_dget (room1 hr) (pv 0) pe_str (fun _ _ => rfl)) (pe_dget (room1 hr) (pv 0) pe_str (fun _ _ => rfl))) (pe_op op_gMul pe_int (pe_dget (room1 hr) (pv 0) pe_str (fun _ _ => rfl)))) pe_int) (pv 1)))))))))))

def t__law_kept (K : PySem.W.Frag) (Z : Ads)  : TS :=
    (tRet (tLst (tCons (tC (.str "not")) (tCons (tC (.str "never")) (tCons (tC (.str "may")) tNil)))))
theorem d__law_kept {f : Addr} {cdv : Value} {A : Around} {outer : List Env} {s : Shared} {H : Hp} {E : XK}   (hr : Room 0 (A.deeper (envOfC "_law_kept" (defScope s__law_kept) s.heap.objs.size f cdv))) :
  PSs (cxOf CX0 P w K mg base [] "_law_kept" (defScope s__law_kept) f cdv A outer s H E).nox (defBody s__law_kept) (t__law_kept K Z ) :=
    (pss_one (ps_ret (pe_lst (pa_cons pe_str (pa_cons pe_str (pa_cons pe_str pa_nil))))))

def t__law_name (P : Program) (w : World) (K : PySem.W.Frag) (Z : Ads)  : TS :=
    (tSeq (tAsg (tC (.str "abcdefghijklmnopqrstuvwxyz")) (gName 2))
    (tSeq (tAsg (tLst (tCons (tC (.str "lot")) (tCons (tC (.str "held")) (tCons (tC (.str "back")) (tCons (tC (.str "by")) (tCons (tC (.str "in")) (tCons (tC (.str "all")) (tCons (tC (.str "some")) (tCons (tC (.str "none")) (tCons (tC (.str "rule")) (tCons (tC (.str "rank")) (tCons (tC (.str "told")) (tCons (tC (.str "with")) (tCons (tC (.str "tell")) (tCons (tC (.str "drop")) tNil))))))))))))))) (gName 3))
    (tSeq (tAsg (tOp (gAdd K) (tVar 3) (tLst (tCons (tC (.str "label")) (tCons (tC (.str "rules")) (tCons (tC (.str "why")) (tCons (tC (.str "or")) (tCons (tC (.str "and")) (tCons (tC (.str "clash")) (tCons (tC (.str "set")) (tCons (tC (.str "sound")) (tCons (tC (.str "head")) (tCons (tC (.str "body")) (tCons (tC (.str "unless")) (tCons (tC (.str "names")) tNil)))))))))))))) (gName 3))
    (tSeq (tAsg (tCall (sp__law_take P w K) [] E0 (tCons (tVar 0) (tCons (tC (.int 5)) tNil))) (gName 4))
    (tSeq (tAsg (tOp (rIx K) (tVar 2) (tCall (sp__law_take P w K) [] E0 (tCons (tVar 0) (tCons (tC (.int 26)) tNil)))) (gName 5))
    (tSeq (tIfS (tTest (tOp (gEq K) (tVar 4) (tC (.int 0)))) (tAsg (tOp (rIx K) (tVar 3) (tCall (sp__law_take P w K) [] E0 (tCons (tVar 0) (tCons (tCB (gLen K) (tCons (tVar 3) tNil)) tNil)))) (gName 5)) (tIfS (tTest (tOp (gEq K) (tVar 4) (tC (.int 1)))) (tSeq (tAsg (tOp (rIx K) (tVar 1) (tCall (sp__law_take P w K) [] E0 (tCons (tVar 0) (tCons (tCB (gLen K) (tCons (tVar 1) tNil)) tNil)))) (gName 5))
    (tSeq (tAsg (tCall (sp__law_take P w K) [] E0 (tCons (tVar 0) (tCons (tCB (gLen K) (tCons (tVar 5) tNil)) tNil))) (gName 6))
    (tAsg (tOp (gAdd K) (tOp (gAdd K) (tSl (gSl K) (tVar 5) tNoPart (tPart (tVar 6))) (tOp (rIx K) (tVar 2) (tCall (sp__law_take P w K) [] E0 (tCons (tVar 0) (tCons (tC (.int 26)) tNil))))) (tSl (gSl K) (tVar 5) (tPart (tOp (gAdd K) (tVar 6) (tCall (sp__law_take P w K) [] E0 (tCons (tVar 0) (tCons (tC (.int 2)) tNil))))) tNoPart)) (gName 5)))) (tFor (iRng1 (tCons (tCall (sp__law_take P w K) [] E0 (tCons (tVar 0) (tCons (tC (.int 8)) tNil))) tNil)) (gName 7) (tAsg (tOp (gAdd K) (tVar 5) (tOp (rIx K) (tVar 2) (tCall (sp__law_take P w K) [] E0 (tCons (tVar 0) (tCons (tC (.int 26)) tNil))))) (gName 5)))))
    (tSeq (tIfS (tOr (tTest (tOp (gIn K) (tVar 5) (tVar 1))) (tTest (tOp gGt (tCB (gLen K) (tCons (tVar 5) tNil)) (tC (.int 8))))) (tSeq (tAsg (tLc (iRng1 (tCons (tOp (gAdd K) (tCB (gLen K) (tCons (tVar 1) tNil)) (tC (.int 1))) tNil)) (gName 7) tYes (tOp (gAdd K) (tOp (gAdd K) (tSl (gSl K) (tVar 5) tNoPart (tPart (tC (.int 6)))) (tOp (rIx K) (tVar 2) (tOp (rI CDivW fun i j => .int (i / j)) (tVar 7) (tC (.int 26))))) (tOp (rIx K) (tVar 2) (tOp (rI (fun _ j => 0 < j) fun i j => .int (i % j)) (tVar 7) (tC (.int 26))))) [7]) (gName 8))
    (tAsg (tOp (rIx K) (tLc (iList K (tVar 8)) (gName 9) (tTest (tOp (gNi K) (tVar 9) (tVar 1))) (tVar 9) [9]) (tC (.int 0))) (gName 5))) tNext)
    (tSeq (tDrop (tBM K "list" rAppend (tVar 1) (tCons (tVar 5) tNil)))
    (tRet (tVar 5))))))))))
theorem d__law_name {f : Addr} {cdv : Value} {A : Around} {outer : List Env} {s : Shared} {H : Hp} {E : XK}  (C__law_take : Cal P w K mg base CX0 1 "_law_take" ["state", "many"] [] (sp__law_take P w K)) (n_len : mg "len" = none) (n_range : mg "range" = none) (hr : Room 1 (A.deeper (envOfC "_law_name" (defScope s__law_name) s.heap.objs.size f cdv))) :
  PSs (cxOf CX0 P w K mg base ["state", "used", "letters", "own", "way", "word", "at", "k", "some", "one"] "_law_name" (defScope s__law_name) f cdv A outer s H E).nox (defBody s__law_name) (t__law_name P w K Z ) :=
    (pss_cons (ps_set (i := 2) sc__law_name.nd rfl (Or.inr rfl) pe_str)
    (pss_cons (ps_set (i := 3) sc__law_name.nd rfl (Or.inl rfl) (pe_lst (pa_cons pe_str (pa_cons pe_str (pa_cons pe_str (pa_cons pe_str (pa_cons pe_str (pa_cons pe_str (pa_cons pe_str (pa_cons pe_str (pa_cons pe_str (pa_cons pe_str (pa_cons pe_str (pa_cons pe_str (pa_cons pe_str (pa_cons pe_str pa_nil))))))))))))))))
    (pss_cons (ps_set (i := 3) sc__law_name.nd rfl (Or.inl rfl) (pe_op op_gAdd (pv 3) (pe_lst (pa_cons pe_str (pa_cons pe_str (pa_cons pe_str (pa_cons pe_str (pa_cons pe_str (pa_cons pe_str (pa_cons pe_str (pa_cons pe_str (pa_cons pe_str (pa_cons pe_str (pa_cons pe_str (pa_cons pe_str pa_nil)))))))))))))))
    (pss_cons (ps_set (i := 4) sc__law_name.nd rfl (Or.inl rfl) (pe_cal C__law_take (hr.mono (by decide)) (by rfl) pass0 (pa_cons (pv 0) (pa_cons pe_int pa_nil))))
    (pss_cons (ps_set (i := 5) sc__law_name.nd rfl (Or.inr rfl) (pe_ix ix_seq (pv 2) (pe_cal C__law_take (hr.mono (by decide)) (by rfl) pass0 (pa_cons (pv 0) (pa_cons pe_int pa_nil))) (fun _ _ => rfl)))
    (pss_cons (ps_if (pt_cmpR (op_gEq hr.units) (pv 4) pe_int (by rfl)) (pss_one (ps_set (i := 5) sc__law_name.nd rfl (Or.inr rfl) (pe_ix ix_seq (pv 3) (pe_cal C__law_take (hr.mono (by decide)) (by rfl) pass0 (pa_cons (pv 0) (pa_cons (pe_callB call_gLen (by rfl) n_len (by decide +kernel) (pa_cons (pv 3) pa_nil)) pa_nil))) (fun _ _ => rfl)))) (pss_one (ps_if (pt_cmpR (op_gEq hr.units) (pv 4) pe_int (by rfl)) (pss_cons (ps_set (i := 5) sc__law_name.nd rfl (Or.inr rfl) (pe_ix ix_seq (pv 1) (pe_cal C__law_take (hr.mono (by decide)) (by rfl) pass0 (pa_cons (pv 0) (pa_cons (pe_callB call_gLen (by rfl) n_len (by decide +kernel) (pa_cons (pv 1) pa_nil)) pa_nil))) (fun _ _ => rfl)))
    (pss_cons (ps_set (i := 6) sc__law_name.nd rfl (Or.inl rfl) (pe_cal C__law_take (hr.mono (by decide)) (by rfl) pass0 (pa_cons (pv 0) (pa_cons (pe_callB call_gLen (by rfl) n_len (by decide +kernel) (pa_cons (pv 5) pa_nil)) pa_nil))))
    (pss_one (ps_set (i := 5) sc__law_name.nd rfl (Or.inr rfl) (pe_op op_gAdd (pe_op op_gAdd (pe_slice sl_g (pv 5) po_none (po_some (pv 6))) (pe_ix ix_seq (pv 2) (pe_cal C__law_take (hr.mono (by decide)) (by rfl) pass0 (pa_cons (pv 0) (pa_cons pe_int pa_nil))) (fun _ _ => rfl))) (pe_slice sl_g (pv 5) (po_some (pe_op op_gAdd (pv 6) (pe_cal C__law_take (hr.mono (by decide)) (by rfl) pass0 (pa_cons (pv 0) (pa_cons pe_int pa_nil))))) po_none)))))) (pss_one (ps_for PassesOwn.never rfl (pi_range1 rfl n_range (pa_cons (pe_cal C__law_take (hr.mono (by decide)) (by rfl) pass0 (pa_cons (pv 0) (pa_cons pe_int pa_nil))) pa_nil)) (pg_name (i := 7) sc__law_name.nd rfl (Or.inl rfl)) (pss_one (ps_set (i := 5) sc__law_name.nd rfl (Or.inr rfl) (pe_op op_gAdd (pv 5) (pe_ix ix_seq (pv 2) (pe_cal C__law_take (hr.mono (by decide)) (by rfl) pass0 (pa_cons (pv 0) (pa_cons pe_int pa_nil))) (fun _ _ => rfl))))))))))
    (pss_cons (ps_if (PW.pt (pw_or (pt_cmpR op_gIn (pv 5) (pv 1) (by rfl)) (pw_or1 (pt_cmpR op_gGt (pe_callB call_gLen (by rfl) n_len (by decide +kernel) (pa_cons (pv 5) pa_nil)) pe_int (by rfl))))) (pss_cons (ps_setLc (i := 8) (own := [("k", 7)]) (g := gName 7) (tt := tYes) rfl sc__law_name.nd rfl rfl (sw_true rfl rfl rfl (by decide +kernel)) (pi_range1 rfl n_range (pa_cons (pe_op op_gAdd (pe_callB call_gLen (by rfl) n_len (by decide +kernel) (pa_cons (pv 1) pa_nil)) pe_int) pa_nil)) (blkOk_by (own := [("k", 7)]) (N := ["state", "used", "letters", "own", "way", "word", "at", "k", "some", "one"]) (sc := defScope s__law_name) (by first | decide +kernel | exact rfl)) (fun _ _ _ _ _ => pg_name (i := 7) sc__law_name.nd rfl (Or.inl rfl)) (fun _ _ _ _ _ => pts_nil) (fun _ _ _ _ _ => (pe_op op_gAdd (pe_op op_gAdd (pe_slice sl_g (pv 5) po_none (po_some pe_int)) (pe_ix ix_seq (pv 2) (pe_op op_fdivW (pv 7) pe_int) (fun _ _ => rfl))) (pe_ix ix_seq (pv 2) (pe_op op_mod (pv 7) pe_int) (fun _ _ => rfl)))))
    (pss_one (ps_set (i := 5) sc__law_name.nd rfl (Or.inr rfl) (pe_ix ix_seq (pe_lc (own := [("one", 9)]) (g := gName 9) (tt := _) rfl sc__law_name.nd (pi_list (pv 8)) (blkOk_by (own := [("one", 9)]) (N := ["state", "used", "letters", "own", "way", "word", "at", "k", "some", "one"]) (sc := defScope s__law_name) (by first | decide +kernel | exact rfl)) (fun _ _ _ _ _ => pg_name (i := 9) sc__law_name.nd rfl (Or.inl rfl)) (fun _ _ _ _ _ => (pts_one (pt_cmpR op_gNi (pv 9) (pv 1) (by rfl)))) (fun _ _ _ _ _ => (pv 9))) pe_int (fun _ _ => rfl))))) pss_nil)
    (pss_cons (ps_expr (pe_bm PySem.F.plainAttrs_list PySem.F.slot_list_append PySem.F.type_list_append mt_append (pv 1) (pa_cons (pv 5) pa_nil)))
    (pss_one (ps_ret (pv 5)))))))))))

def t__law_names (P : Program) (w : World) (K : PySem.W.Frag) (Z : Ads)  : TS :=
    (tRet (tLc (iRng1 (tCons (tVar 2) tNil)) (gName 3) tYes (tCall (sp__law_name P w K) [] E0 (tCons (tVar 0) (tCons (tVar 1) tNil))) [3]))
theorem d__law_names {f : Addr} {cdv : Value} {A : Around} {outer : List Env} {s : Shared} {H : Hp} {E : XK}  (C__law_name : Cal P w K mg base CX0 2 "_law_name" ["state", "used"] [] (sp__law_name P w K)) (n_range : mg "range" = none) (hr : Room 2 (A.deeper (envOfC "_law_names" (defScope s__law_names) s.heap.objs.size f cdv))) :
  PSs (cxOf CX0 P w K mg base ["state", "used", "many", "k"] "_law_names" (defScope s__law_names) f cdv A outer s H E).nox (defBody s__law_names) (t__law_names P w K Z ) :=
    (pss_one (ps_ret (pe_lc (own := [("k", 3)]) (g := gName 3) (tt := tYes) rfl sc__law_names.nd (pi_range1 rfl n_range (pa_cons (pv 2) pa_nil)) (blkOk_by (own := [("k", 3)]) (N := ["state", "used", "many", "k"]) (sc := defScope s__law_names) (by first | decide +kernel | exact rfl)) (fun _ _ _ _ _ => pg_name (i := 3) sc__law_names.nd rfl (Or.inl rfl)) (fun _ _ _ _ _ => pts_nil) (fun _ _ _ _ _ => (pe_cal C__law_name (hr.mono (by decide)) (by rfl) pass0 (pa_cons (pv 0) (pa_cons (pv 1) pa_nil)))))))

def t__law_pair (P : Program) (w : World) (K : PySem.W.Frag) (Z : Ads)  : TS :=
    (tSeq (tAsg (tOp (rIx K) (tLst (tCons (tC (.int 0)) (tCons (tC (.int 1)) (tCons (tC (.int 1)) (tCons (tC (.int 1)) (tCons (tC (.int 2)) (tCons (tC (.int 2)) (tCons (tC (.int 3)) (tCons (tCall (sp__law_take P w K) [] E0 (tCons (tVar 0) (tCons (tC (.int 7)) tNil))) tNil))))))))) (tCall (sp__law_take P w K) [] E0 (tCons (tVar 0) (tCons (tC (.int 8)) tNil)))) (gName 2))
    (tSeq (tAsg (tCB (Evl.rListS K) (tCons (tVar 1) tNil)) (gName 3))
    (tSeq (tAsg (tLst tNil) (gName 4))
    (tSeq (tFor (iRng1 (tCons (tCB rMin2 (tCons (tVar 2) (tCons (tCB (gLen K) (tCons (tVar 3) tNil)) tNil))) tNil)) (gName 5) (tDrop (tBM K "list" rAppend (tVar 4) (tCons (tBM K "list" rPopAt (tVar 3) (tCons (tCall (sp__law_take P w K) [] E0 (tCons (tVar 0) (tCons (tCB (gLen K) (tCons (tVar 3) tNil)) tNil))) tNil)) tNil))))
    (tSeq (tIfS (tTest (tOp (gEq K) (tCall (sp__law_take P w K) [] E0 (tCons (tVar 0) (tCons (tC (.int 6)) tNil))) (tC (.int 0)))) (tRet (tTup (tCons (tC .non) (tCons (tCB (rTupleS K) (tCons (tVar 4) tNil)) tNil)))) tNext)
    (tRet (tTup (tCons (tOp (rIx K) (tVar 1) (tCall (sp__law_take P w K) [] E0 (tCons (tVar 0) (tCons (tCB (gLen K) (tCons (tVar 1) tNil)) tNil)))) (tCons (tCB (rTupleS K) (tCons (tVar 4) tNil)) tNil)))))))))
theorem d__law_pair {f : Addr} {cdv : Value} {A : Around} {outer : List Env} {s : Shared} {H : Hp} {E : XK}  (C__law_take : Cal P w K mg base CX0 1 "_law_take" ["state", "many"] [] (sp__law_take P w K)) (n_len : mg "len" = none) (n_list : mg "list" = none) (n_min : mg "min" = none) (n_range : mg "range" = none) (n_tuple : mg "tuple" = none) (hr : Room 1 (A.deeper (envOfC "_law_pair" (defScope s__law_pair) s.heap.objs.size f cdv))) :
  PSs (cxOf CX0 P w K mg base ["state", "names", "size", "left", "body", "k"] "_law_pair" (defScope s__law_pair) f cdv A outer s H E).nox (defBody s__law_pair) (t__law_pair P w K Z ) :=
    (pss_cons (ps_set (i := 2) sc__law_pair.nd rfl (Or.inl rfl) (pe_ix ix_seq (pe_lst (pa_cons pe_int (pa_cons pe_int (pa_cons pe_int (pa_cons pe_int (pa_cons pe_int (pa_cons pe_int (pa_cons pe_int (pa_cons (pe_cal C__law_take (hr.mono (by decide)) (by rfl) pass0 (pa_cons (pv 0) (pa_cons pe_int pa_nil))) pa_nil))))))))) (pe_cal C__law_take (hr.mono (by decide)) (by rfl) pass0 (pa_cons (pv 0) (pa_cons pe_int pa_nil))) (fun _ _ => rfl)))
    (pss_cons (ps_set (i := 3) sc__law_pair.nd rfl (Or.inl rfl) (pe_callTy call_list1 (by rfl) n_list (by decide +kernel) (pa_cons (pv 1) pa_nil)))
    (pss_cons (ps_set (i := 4) sc__law_pair.nd rfl (Or.inl rfl) (pe_lst pa_nil))
    (pss_cons (ps_for PassesOwn.never rfl (pi_range1 rfl n_range (pa_cons (pe_callB (call_min2 rfl) (by rfl) n_min (by decide +kernel) (pa_cons (pv 2) (pa_cons (pe_callB call_gLen (by rfl) n_len (by decide +kernel) (pa_cons (pv 3) pa_nil)) pa_nil))) pa_nil)) (pg_name (i := 5) sc__law_pair.nd rfl (Or.inl rfl)) (pss_one (ps_expr (pe_bm PySem.F.plainAttrs_list PySem.F.slot_list_append PySem.F.type_list_append mt_append (pv 4) (pa_cons (pe_bm PySem.F.plainAttrs_list PySem.F.slot_list_pop PySem.F.type_list_pop mt_popAt (pv 3) (pa_cons (pe_cal C__law_take (hr.mono (by decide)) (by rfl) pass0 (pa_cons (pv 0) (pa_cons (pe_callB call_gLen (by rfl) n_len (by decide +kernel) (pa_cons (pv 3) pa_nil)) pa_nil))) pa_nil)) pa_nil)))))
    (pss_cons (ps_if (pt_cmpR (op_gEq hr.units) (pe_cal C__law_take (hr.mono (by decide)) (by rfl) pass0 (pa_cons (pv 0) (pa_cons pe_int pa_nil))) pe_int (by rfl)) (pss_one (ps_ret (pe_tup (pa_cons pe_non (pa_cons (pe_callTy call_tuple1 (by rfl) n_tuple (by decide +kernel) (pa_cons (pv 4) pa_nil)) pa_nil))))) pss_nil)
    (pss_one (ps_ret (pe_tup (pa_cons (pe_ix ix_seq (pv 1) (pe_cal C__law_take (hr.mono (by decide)) (by rfl) pass0 (pa_cons (pv 0) (pa_cons (pe_callB call_gLen (by rfl) n_len (by decide +kernel) (pa_cons (pv 1) pa_nil)) pa_nil))) (fun _ _ => rfl)) (pa_cons (pe_callTy call_tuple1 (by rfl) n_tuple (by decide +kernel) (pa_cons (pv 4) pa_nil)) pa_nil))))))))))

def t__law_pairs (P : Program) (w : World) (K : PySem.W.Frag) (Z : Ads)  : TS :=
    (tRet (tLc (iRng1 (tCons (tCall (sp__law_take P w K) [] E0 (tCons (tVar 0) (tCons (tOp (gAdd K) (tVar 2) (tC (.int 1))) tNil))) tNil)) (gName 3) tYes (tCall (sp__law_pair P w K) [] E0 (tCons (tVar 0) (tCons (tVar 1) tNil))) [3]))
theorem d__law_pairs {f : Addr} {cdv : Value} {A : Around} {outer : List Env} {s : Shared} {H : Hp} {E : XK}  (C__law_pair : Cal P w K mg base CX0 2 "_law_pair" ["state", "names"] [] (sp__law_pair P w K)) (C__law_take : Cal P w K mg base CX0 1 "_law_take" ["state", "many"] [] (sp__law_take P w K)) (n_range : mg "range" = none) (hr : Room 2 (A.deeper (envOfC "_law_pairs" (defScope s__law_pairs) s.heap.objs.size f cdv))) :
  PSs (cxOf CX0 P w K mg base ["state", "names", "most", "k"] "_law_pairs" (defScope s__law_pairs) f cdv A outer s H E).nox (defBody s__law_pairs) (t__law_pairs P w K Z ) :=
    (pss_one (ps_ret (pe_lc (own := [("k", 3)]) (g := gName 3) (tt := tYes) rfl sc__law_pairs.nd (pi_range1 rfl n_range (pa_cons (pe_cal C__law_take (hr.mono (by decide)) (by rfl) pass0 (pa_cons (pv 0) (pa_cons (pe_op op_gAdd (pv 2) pe_int) pa_nil))) pa_nil)) (blkOk_by (own := [("k", 3)]) (N := ["state", "names", "most", "k"]) (sc := defScope s__law_pairs) (by first | decide +kernel | exact rfl)) (fun _ _ _ _ _ => pg_name (i := 3) sc__law_pairs.nd rfl (Or.inl rfl)) (fun _ _ _ _ _ => pts_nil) (fun _ _ _ _ _ => (pe_cal C__law_pair (hr.mono (by decide)) (by rfl) pass0 (pa_cons (pv 0) (pa_cons (pv 1) pa_nil)))))))

def t__law_some (P : Program) (w : World) (K : PySem.W.Frag) (Z : Ads)  : TS :=
    (tSeq (tAsg (tCB (Evl.rListS K) (tCons (tVar 1) tNil)) (gName 2))
    (tRet (tLc (iRng1 (tCons (tCall (sp__law_take P w K) [] E0 (tCons (tVar 0) (tCons (tOp (gAdd K) (tCB (gLen K) (tCons (tVar 2) tNil)) (tC (.int 1))) tNil))) tNil)) (gName 3) tYes (tBM K "list" rPopAt (tVar 2) (tCons (tCall (sp__law_take P w K) [] E0 (tCons (tVar 0) (tCons (tCB (gLen K) (tCons (tVar 2) tNil)) tNil))) tNil)) [3])))
theorem d__law_some {f : Addr} {cdv : Value} {A : Around} {outer : List Env} {s : Shared} {H : Hp} {E : XK}  (C__law_take : Cal P w K mg base CX0 1 "_law_take" ["state", "many"] [] (sp__law_take P w K)) (n_len : mg "len" = none) (n_list : mg "list" = none) (n_range : mg "range" = none) (hr : Room 1 (A.deeper (envOfC "_law_some" (defScope s__law_some) s.heap.objs.size f cdv))) :
  PSs (cxOf CX0 P w K mg base ["state", "names", "left", "k"] "_law_some" (defScope s__law_some) f cdv A outer s H E).nox (defBody s__law_some) (t__law_some P w K Z ) :=
    (pss_cons (ps_set (i := 2) sc__law_some.nd rfl (Or.inr rfl) (pe_callTy call_list1 (by rfl) n_list (by decide +kernel) (pa_cons (pv 1) pa_nil)))
    (pss_one (ps_ret (pe_lc (own := [("k", 3)]) (g := gName 3) (tt := tYes) rfl sc__law_some.nd (pi_range1 rfl n_range (pa_cons (pe_cal C__law_take (hr.mono (by decide)) (by rfl) pass0 (pa_cons (pv 0) (pa_cons (pe_op op_gAdd (pe_callB call_gLen (by rfl) n_len (by decide +kernel) (pa_cons (pv 2) pa_nil)) pe_int) pa_nil))) pa_nil)) (blkOk_by (own := [("k", 3)]) (N := ["state", "names", "left", "k"]) (sc := defScope s__law_some) (by first | decide +kernel | exact rfl)) (fun _ _ _ _ _ => pg_name (i := 3) sc__law_some.nd rfl (Or.inl rfl)) (fun _ _ _ _ _ => pts_nil) (fun _ _ _ _ _ => (pe_bm PySem.F.plainAttrs_list PySem.F.slot_list_pop PySem.F.type_list_pop mt_popAt (pv 2) (pa_cons (pe_cal C__law_take (hr.mono (by decide)) (by rfl) pass0 (pa_cons (pv 0) (pa_cons (pe_callB call_gLen (by rfl) n_len (by decide +kernel) (pa_cons (pv 2) pa_nil)) pa_nil))) pa_nil)))))))

def t__law_held (K : PySem.W.Frag) (Z : Ads)  : TS :=
    (tSeq (tAsg (tCB (Evl.rListS K) (tCons (tVar 1) tNil)) (gName 2))
    (tSeq (tAsg (tUn (rU fun i => .int (-i)) (tC (.int 1))) (gName 3))
    (tSeq (tWhile (tTest (tOp (gNe K) (tVar 3) (tCB (gLen K) (tCons (tVar 2) tNil)))) (tSeq (tAsg (tCB (gLen K) (tCons (tVar 2) tNil)) (gName 3))
    (tFor (iList K (tVar 0)) (gTup K 2 (gCons (gName 4) (gCons (gName 5) gNil))) (tIfS (tAnd (tTest (tOp rNotN (tVar 4) (tC .non))) (tAnd (tTest (tOp (gNi K) (tVar 4) (tVar 2))) (tTest (tOp (gEq K) (tLc (iTup K (tVar 5)) (gName 6) (tTest (tOp (gNi K) (tVar 6) (tVar 2))) (tVar 6) [6]) (tLst tNil))))) (tDrop (tBM K "list" rAppend (tVar 2) (tCons (tVar 4) tNil))) tNext))))
    (tRet (tVar 2)))))
theorem d__law_held {f : Addr} {cdv : Value} {A : Around} {outer : List Env} {s : Shared} {H : Hp} {E : XK}  (n_len : mg "len" = none) (n_list : mg "list" = none) (hr : Room 0 (A.deeper (envOfC "_law_held" (defScope s__law_held) s.heap.objs.size f cdv))) :
  PSs (cxOf CX0 P w K mg base ["pairs", "some", "found", "many", "head", "body", "one"] "_law_held" (defScope s__law_held) f cdv A outer s H E).nox (defBody s__law_held) (t__law_held K Z ) :=
    (pss_cons (ps_set (i := 2) sc__law_held.nd rfl (Or.inr rfl) (pe_callTy call_list1 (by rfl) n_list (by decide +kernel) (pa_cons (pv 1) pa_nil)))
    (pss_cons (ps_set (i := 3) sc__law_held.nd rfl (Or.inl rfl) (pe_un un_neg pe_int))
    (pss_cons (ps_while PassesOwn.never (pt_cmpR (op_gNe hr.units) (pv 3) (pe_callB call_gLen (by rfl) n_len (by decide +kernel) (pa_cons (pv 2) pa_nil)) (by rfl)) (pss_cons (ps_set (i := 3) sc__law_held.nd rfl (Or.inl rfl) (pe_callB call_gLen (by rfl) n_len (by decide +kernel) (pa_cons (pv 2) pa_nil)))
    (pss_one (ps_for PassesOwn.never rfl (pi_list (pv 0)) (pg_tup rfl (pgs_cons (pg_name (i := 4) sc__law_held.nd rfl (Or.inl rfl)) (pgs_cons (pg_name (i := 5) sc__law_held.nd rfl (Or.inl rfl)) pgs_nil))) (pss_one (ps_if (PW.pt (pw_and (pt_cmpR op_notN1 (pv 4) pe_non (by rfl)) (pw_and (pt_cmpR op_gNi (pv 4) (pv 2) (by rfl)) (pw_and1 (pt_cmpR (op_gEq hr.units) (pe_lc (own := [("one", 6)]) (g := gName 6) (tt := _) rfl sc__law_held.nd (pi_tup (pv 5)) (blkOk_by (own := [("one", 6)]) (N := ["pairs", "some", "found", "many", "head", "body", "one"]) (sc := defScope s__law_held) (by first | decide +kernel | exact rfl)) (fun _ _ _ _ _ => pg_name (i := 6) sc__law_held.nd rfl (Or.inl rfl)) (fun _ _ _ _ _ => (pts_one (pt_cmpR op_gNi (pv 6) (pv 2) (by rfl)))) (fun _ _ _ _ _ => (pv 6))) (pe_lst pa_nil) (by rfl)))))) (pss_one (ps_expr (pe_bm PySem.F.plainAttrs_list PySem.F.slot_list_append PySem.F.type_list_append mt_append (pv 2) (pa_cons (pv 4) pa_nil)))) pss_nil))))))
    (pss_one (ps_ret (pv 2))))))

def t__law_same0 (K : PySem.W.Frag) (Z : Ads)  : TS :=
    (tSeq (tIfS (tB (tCB (gIsi K) (tCons (tVar 1) (tCons (tC (.ty "list")) tNil)))) (tSeq (tIfS (tOr (tNot (tB (tCB (gIsi K) (tCons (tVar 0) (tCons (tC (.ty "list")) tNil))))) (tTest (tOp (gNe K) (tCB (gLen K) (tCons (tVar 0) tNil)) (tCB (gLen K) (tCons (tVar 1) tNil))))) (tRet (tC (.bl false))) tNext)
    tDeadS) tNext)
    (tSeq (tIfS (tB (tCB (gIsi K) (tCons (tVar 1) (tCons (tC (.ty "tuple")) tNil)))) (tSeq (tIfS (tOr (tNot (tB (tCB (gIsi K) (tCons (tVar 0) (tCons (tC (.ty "tuple")) tNil))))) (tTest (tOp (gNe K) (tCB (gLen K) (tCons (tVar 0) tNil)) (tCB (gLen K) (tCons (tVar 1) tNil))))) (tRet (tC (.bl false))) tNext)
    tDeadS) tNext)
    (tSeq (tIfS (tTest (tOp rIsN (tVar 1) (tC .non))) (tRet (tOp rIsN (tVar 0) (tC .non))) tNext)
    (tSeq (tIfS (tB (tCB (gIsi K) (tCons (tVar 1) (tCons (tC (.ty "int")) tNil)))) (tRet (tAndV (tCB (gIsi K) (tCons (tVar 0) (tCons (tC (.ty "int")) tNil))) (tAndV (tNotV (tCB (gIsi K) (tCons (tVar 0) (tCons (tC (.ty "bool")) tNil)))) (tOp (gEq K) (tVar 0) (tVar 1))))) tNext)
    (tRet (tAndV (tCB (gIsi K) (tCons (tVar 0) (tCons (tC (.ty "str")) tNil))) (tOp (gEq K) (tVar 0) (tVar 1))))))))
theorem d__law_same0 {f : Addr} {cdv : Value} {A : Around} {outer : List Env} {s : Shared} {H : Hp} {E : XK}  (n_bool : mg "bool" = none) (n_int : mg "int" = none) (n_isinstance : mg "isinstance" = none) (n_len : mg "len" = none) (n_list : mg "list" = none) (n_str : mg "str" = none) (n_tuple : mg "tuple" = none) (hr : Room 0 (A.deeper (envOfC "_law_same" (defScope s__law_same0) s.heap.objs.size f cdv))) :
  PSs (cxOf CX0 P w K mg base ["found", "due", "one", "other"] "_law_same" (defScope s__law_same0) f cdv A outer s H E).nox (defBody s__law_same0) (t__law_same0 K Z ) :=
    (pss_cons (ps_if (pt_val (pe_callB call_gIsi (by rfl) n_isinstance (by decide +kernel) (pa_cons (pv 1) (pa_cons (pe_bltn (v := .ty "list") (by rfl) n_list (by decide +kernel) rfl) pa_nil)))) (pss_cons (ps_if (PW.pt (pw_or (pt_not (pt_val (pe_callB call_gIsi (by rfl) n_isinstance (by decide +kernel) (pa_cons (pv 0) (pa_cons (pe_bltn (v := .ty "list") (by rfl) n_list (by decide +kernel) rfl) pa_nil))))) (pw_or1 (pt_cmpR (op_gNe hr.units) (pe_callB call_gLen (by rfl) n_len (by decide +kernel) (pa_cons (pv 0) pa_nil)) (pe_callB call_gLen (by rfl) n_len (by decide +kernel) (pa_cons (pv 1) pa_nil)) (by rfl))))) (pss_one (ps_ret pe_bl)) pss_nil)
    (pss_one ps_dead)) pss_nil)
    (pss_cons (ps_if (pt_val (pe_callB call_gIsi (by rfl) n_isinstance (by decide +kernel) (pa_cons (pv 1) (pa_cons (pe_bltn (v := .ty "tuple") (by rfl) n_tuple (by decide +kernel) rfl) pa_nil)))) (pss_cons (ps_if (PW.pt (pw_or (pt_not (pt_val (pe_callB call_gIsi (by rfl) n_isinstance (by decide +kernel) (pa_cons (pv 0) (pa_cons (pe_bltn (v := .ty "tuple") (by rfl) n_tuple (by decide +kernel) rfl) pa_nil))))) (pw_or1 (pt_cmpR (op_gNe hr.units) (pe_callB call_gLen (by rfl) n_len (by decide +kernel) (pa_cons (pv 0) pa_nil)) (pe_callB call_gLen (by rfl) n_len (by decide +kernel) (pa_cons (pv 1) pa_nil)) (by rfl))))) (pss_one (ps_ret pe_bl)) pss_nil)
    (pss_one ps_dead)) pss_nil)
    (pss_cons (ps_if (pt_cmpR op_isN1 (pv 1) pe_non (by rfl)) (pss_one (ps_ret (pe_cmpR op_isN1 (pv 0) pe_non (by rfl)))) pss_nil)
    (pss_cons (ps_if (pt_val (pe_callB call_gIsi (by rfl) n_isinstance (by decide +kernel) (pa_cons (pv 1) (pa_cons (pe_bltn (v := .ty "int") (by rfl) n_int (by decide +kernel) rfl) pa_nil)))) (pss_one (ps_ret (pe_and (pe_callB call_gIsi (by rfl) n_isinstance (by decide +kernel) (pa_cons (pv 0) (pa_cons (pe_bltn (v := .ty "int") (by rfl) n_int (by decide +kernel) rfl) pa_nil))) (pe_and (pe_not (pe_callB call_gIsi (by rfl) n_isinstance (by decide +kernel) (pa_cons (pv 0) (pa_cons (pe_bltn (v := .ty "bool") (by rfl) n_bool (by decide +kernel) rfl) pa_nil)))) (pe_one (pe_cmpR (op_gEq hr.units) (pv 0) (pv 1) (by rfl))))))) pss_nil)
    (pss_one (ps_ret (pe_and (pe_callB call_gIsi (by rfl) n_isinstance (by decide +kernel) (pa_cons (pv 0) (pa_cons (pe_bltn (v := .ty "str") (by rfl) n_str (by decide +kernel) rfl) pa_nil))) (pe_one (pe_cmpR (op_gEq hr.units) (pv 0) (pv 1) (by rfl))))))))))

def t__law_same (K : PySem.W.Frag) (Z : Ads)  : TS :=
    (tSeq (tIfS (tB (tCB (gIsi K) (tCons (tVar 1) (tCons (tC (.ty "list")) tNil)))) (tSeq (tIfS (tOr (tNot (tB (tCB (gIsi K) (tCons (tVar 0) (tCons (tC (.ty "list")) tNil))))) (tTest (tOp (gNe K) (tCB (gLen K) (tCons (tVar 0) tNil)) (tCB (gLen K) (tCons (tVar 1) tNil))))) (tRet (tC (.bl false))) tNext)
    (tRet (tCB (rAll K) (tCons (tLc (iZip K (tCons (tVar 0) (tCons (tVar 1) tNil))) (gTup K 2 (gCons (gName 2) (gCons (gName 3) gNil))) tYes (tCall (sp__law_same0 K) [] E0 (tCons (tVar 2) (tCons (tVar 3) tNil))) [2, 3]) tNil)))) tNext)
    (tSeq (tIfS (tB (tCB (gIsi K) (tCons (tVar 1) (tCons (tC (.ty "tuple")) tNil)))) (tSeq (tIfS (tOr (tNot (tB (tCB (gIsi K) (tCons (tVar 0) (tCons (tC (.ty "tuple")) tNil))))) (tTest (tOp (gNe K) (tCB (gLen K) (tCons (tVar 0) tNil)) (tCB (gLen K) (tCons (tVar 1) tNil))))) (tRet (tC (.bl false))) tNext)
    (tRet (tCB (rAll K) (tCons (tLc (iZip K (tCons (tVar 0) (tCons (tVar 1) tNil))) (gTup K 2 (gCons (gName 2) (gCons (gName 3) gNil))) tYes (tCall (sp__law_same0 K) [] E0 (tCons (tVar 2) (tCons (tVar 3) tNil))) [2, 3]) tNil)))) tNext)
    (tSeq (tIfS (tTest (tOp rIsN (tVar 1) (tC .non))) (tRet (tOp rIsN (tVar 0) (tC .non))) tNext)
    (tSeq (tIfS (tB (tCB (gIsi K) (tCons (tVar 1) (tCons (tC (.ty "int")) tNil)))) (tRet (tAndV (tCB (gIsi K) (tCons (tVar 0) (tCons (tC (.ty "int")) tNil))) (tAndV (tNotV (tCB (gIsi K) (tCons (tVar 0) (tCons (tC (.ty "bool")) tNil)))) (tOp (gEq K) (tVar 0) (tVar 1))))) tNext)
    (tRet (tAndV (tCB (gIsi K) (tCons (tVar 0) (tCons (tC (.ty "str")) tNil))) (tOp (gEq K) (tVar 0) (tVar 1))))))))
theorem d__law_same {f : Addr} {cdv : Value} {A : Around} {outer : List Env} {s : Shared} {H : Hp} {E : XK}  (C__law_same0 : Cal P w K mg base CX0 1 "_law_same" ["found", "due"] [] (sp__law_same0 K)) (n_all : mg "all" = none) (n_bool : mg "bool" = none) (n_int : mg "int" = none) (n_isinstance : mg "isinstance" = none) (n_len : mg "len" = none) (n_list : mg "list" = none) (n_str : mg "str" = none) (n_tuple : mg "tuple" = none) (n_zip : mg "zip" = none) (hr : Room 1 (A.deeper (envOfC "_law_same" (defScope s__law_same) s.heap.objs.size f cdv))) :
  PSs (cxOf CX0 P w K mg base ["found", "due", "one", "other"] "_law_same" (defScope s__law_same) f cdv A outer s H E).nox (defBody s__law_same) (t__law_same K Z ) :=
    (pss_cons (ps_if (pt_val (pe_callB call_gIsi (by rfl) n_isinstance (by decide +kernel) (pa_cons (pv 1) (pa_cons (pe_bltn (v := .ty "list") (by rfl) n_list (by decide +kernel) rfl) pa_nil)))) (pss_cons (ps_if (PW.pt (pw_or (pt_not (pt_val (pe_callB call_gIsi (by rfl) n_isinstance (by decide +kernel) (pa_cons (pv 0) (pa_cons (pe_bltn (v := .ty "list") (by rfl) n_list (by decide +kernel) rfl) pa_nil))))) (pw_or1 (pt_cmpR (op_gNe hr.units) (pe_callB call_gLen (by rfl) n_len (by decide +kernel) (pa_cons (pv 0) pa_nil)) (pe_callB call_gLen (by rfl) n_len (by decide +kernel) (pa_cons (pv 1) pa_nil)) (by rfl))))) (pss_one (ps_ret pe_bl)) pss_nil)
    (pss_one (ps_ret (pe_callB (cr_all rfl) (by rfl) n_all (by decide +kernel) (pa_cons (pe_lc (own := [("one", 2), ("other", 3)]) (g := (gTup K 2 (gCons (gName 2) (gCons (gName 3) gNil)))) (tt := tYes) rfl sc__law_same.nd (pi_zip (by rfl) n_zip (pa_cons (pv 0) (pa_cons (pv 1) pa_nil))) (blkOk_by (own := [("one", 2), ("other", 3)]) (N := ["found", "due", "one", "other"]) (sc := defScope s__law_same) (by first | decide +kernel | exact rfl)) (fun _ _ _ _ _ => pg_tup rfl (pgs_cons (pg_name (i := 2) sc__law_same.nd rfl (Or.inl rfl)) (pgs_cons (pg_name (i := 3) sc__law_same.nd rfl (Or.inl rfl)) pgs_nil))) (fun _ _ _ _ _ => pts_nil) (fun _ _ _ _ _ => (pe_cal C__law_same0 (hr.mono (by decide)) (by rfl) pass0 (pa_cons (pv 2) (pa_cons (pv 3) pa_nil))))) pa_nil))))) pss_nil)
    (pss_cons (ps_if (pt_val (pe_callB call_gIsi (by rfl) n_isinstance (by decide +kernel) (pa_cons (pv 1) (pa_cons (pe_bltn (v := .ty "tuple") (by rfl) n_tuple (by decide +kernel) rfl) pa_nil)))) (pss_cons (ps_if (PW.pt (pw_or (pt_not (pt_val (pe_callB call_gIsi (by rfl) n_isinstance (by decide +kernel) (pa_cons (pv 0) (pa_cons (pe_bltn (v := .ty "tuple") (by rfl) n_tuple (by decide +kernel) rfl) pa_nil))))) (pw_or1 (pt_cmpR (op_gNe hr.units) (pe_callB call_gLen (by rfl) n_len (by decide +kernel) (pa_cons (pv 0) pa_nil)) (pe_callB call_gLen (by rfl) n_len (by decide +kernel) (pa_cons (pv 1) pa_nil)) (by rfl))))) (pss_one (ps_ret pe_bl)) pss_nil)
    (pss_one (ps_ret (pe_callB (cr_all rfl) (by rfl) n_all (by decide +kernel) (pa_cons (pe_lc (own := [("one", 2), ("other", 3)]) (g := (gTup K 2 (gCons (gName 2) (gCons (gName 3) gNil)))) (tt := tYes) rfl sc__law_same.nd (pi_zip (by rfl) n_zip (pa_cons (pv 0) (pa_cons (pv 1) pa_nil))) (blkOk_by (own := [("one", 2), ("other", 3)]) (N := ["found", "due", "one", "other"]) (sc := defScope s__law_same) (by first | decide +kernel | exact rfl)) (fun _ _ _ _ _ => pg_tup rfl (pgs_cons (pg_name (i := 2) sc__law_same.nd rfl (Or.inl rfl)) (pgs_cons (pg_name (i := 3) sc__law_same.nd rfl (Or.inl rfl)) pgs_nil))) (fun _ _ _ _ _ => pts_nil) (fun _ _ _ _ _ => (pe_cal C__law_same0 (hr.mono (by decide)) (by rfl) pass0 (pa_cons (pv 2) (pa_cons (pv 3) pa_nil))))) pa_nil))))) pss_nil)
    (pss_cons (ps_if (pt_cmpR op_isN1 (pv 1) pe_non (by rfl)) (pss_one (ps_ret (pe_cmpR op_isN1 (pv 0) pe_non (by rfl)))) pss_nil)
    (pss_cons (ps_if (pt_val (pe_callB call_gIsi (by rfl) n_isinstance (by decide +kernel) (pa_cons (pv 1) (pa_cons (pe_bltn (v := .ty "int") (by rfl) n_int (by decide +kernel) rfl) pa_nil)))) (pss_one (ps_ret (pe_and (pe_callB call_gIsi (by rfl) n_isinstance (by decide +kernel) (pa_cons (pv 0) (pa_cons (pe_bltn (v := .ty "int") (by rfl) n_int (by decide +kernel) rfl) pa_nil))) (pe_and (pe_not (pe_callB call_gIsi (by rfl) n_isinstance (by decide +kernel) (pa_cons (pv 0) (pa_cons (pe_bltn (v := .ty "bool") (by rfl) n_bool (by decide +kernel) rfl) pa_nil)))) (pe_one (pe_cmpR (op_gEq hr.units) (pv 0) (pv 1) (by rfl))))))) pss_nil)
    (pss_one (ps_ret (pe_and (pe_callB call_gIsi (by rfl) n_isinstance (by decide +kernel) (pa_cons (pv 0) (pa_cons (pe_bltn (v := .ty "str") (by rfl) n_str (by decide +kernel) rfl) pa_nil))) (pe_one (pe_cmpR (op_gEq hr.units) (pv 0) (pv 1) (by rfl))))))))))

def t__law_clash (K : PySem.W.Frag) (Z : Ads)  : TS :=
    (tSeq (tAsg (tLc (iList K (tVar 0)) (gTup K 2 (gCons (gName 3) (gCons (gName 4) gNil))) (tTest (tOp rIsN (tVar 3) (tC .non))) (tVar 4) [3, 4]) (gName 2))
    (tRet (tOp (gNe K) (tLc (iList K (tVar 2)) (gName 4) (tTest (tOp (gEq K) (tLc (iTup K (tVar 4)) (gName 5) (tTest (tOp (gNi K) (tVar 5) (tVar 1))) (tVar 5) [5]) (tLst tNil))) (tVar 4) [4]) (tLst tNil))))
theorem d__law_clash {f : Addr} {cdv : Value} {A : Around} {outer : List Env} {s : Shared} {H : Hp} {E : XK}   (hr : Room 0 (A.deeper (envOfC "_law_clash" (defScope s__law_clash) s.heap.objs.size f cdv))) :
  PSs (cxOf CX0 P w K mg base ["pairs", "names", "bodies", "head", "body", "name"] "_law_clash" (defScope s__law_clash) f cdv A outer s H E).nox (defBody s__law_clash) (t__law_clash K Z ) :=
    (pss_cons (ps_setLc (i := 2) (own := [("head", 3), ("body", 4)]) (g := (gTup K 2 (gCons (gName 3) (gCons (gName 4) gNil)))) (tt := _) rfl sc__law_clash.nd rfl rfl (sw_true rfl rfl rfl (by decide +kernel)) (pi_list (pv 0)) (blkOk_by (own := [("head", 3), ("body", 4)]) (N := ["pairs", "names", "bodies", "head", "body", "name"]) (sc := defScope s__law_clash) (by first | decide +kernel | exact rfl)) (fun _ _ _ _ _ => pg_tup rfl (pgs_cons (pg_name (i := 3) sc__law_clash.nd rfl (Or.inl rfl)) (pgs_cons (pg_name (i := 4) sc__law_clash.nd rfl (Or.inl rfl)) pgs_nil))) (fun _ _ _ _ _ => (pts_one (pt_cmpR op_isN1 (pv 3) pe_non (by rfl)))) (fun _ _ _ _ _ => (pv 4)))
    (pss_one (ps_ret (pe_cmpR (op_gNe hr.units) (pe_lc (own := [("body", 4)]) (g := gName 4) (tt := _) rfl sc__law_clash.nd (pi_list (pv 2)) (blkOk_by (own := [("body", 4)]) (N := ["pairs", "names", "bodies", "head", "body", "name"]) (sc := defScope s__law_clash) (by first | decide +kernel | exact rfl)) (fun _ _ _ _ _ => pg_name (i := 4) sc__law_clash.nd rfl (Or.inl rfl)) (fun _ _ _ _ _ => (pts_one (pt_cmpR (op_gEq hr.units) (pe_lc (own := [("name", 5)]) (g := gName 5) (tt := _) rfl sc__law_clash.nd (pi_tup (pv 4)) (blkOk_by (own := [("name", 5)]) (N := ["pairs", "names", "bodies", "head", "body", "name"]) (sc := _) (by first | decide +kernel | exact rfl)) (fun _ _ _ _ _ => pg_name (i := 5) sc__law_clash.nd rfl (Or.inl rfl)) (fun _ _ _ _ _ => (pts_one (pt_cmpR op_gNi (pv 5) (pv 1) (by rfl)))) (fun _ _ _ _ _ => (pv 5))) (pe_lst pa_nil) (by rfl)))) (fun _ _ _ _ _ => (pv 4))) (pe_lst pa_nil) (by rfl)))))

def t__law_turned (P : Program) (w : World) (K : PySem.W.Frag) (Z : Ads)  : TS :=
    (tSeq (tAsg (tOp (gAdd K) (tVar 1) (tSl (gSl K) (tVar 1) tNoPart (tPart (tCall (sp__law_take P w K) [] E0 (tCons (tVar 0) (tCons (tC (.int 3)) tNil)))))) (gName 2))
    (tRet (tLc (iRng1 (tCons (tCB (gLen K) (tCons (tVar 2) tNil)) tNil)) (gName 3) tYes (tBM K "list" rPopAt (tVar 2) (tCons (tCall (sp__law_take P w K) [] E0 (tCons (tVar 0) (tCons (tCB (gLen K) (tCons (tVar 2) tNil)) tNil))) tNil)) [3])))
theorem d__law_turned {f : Addr} {cdv : Value} {A : Around} {outer : List Env} {s : Shared} {H : Hp} {E : XK}  (C__law_take : Cal P w K mg base CX0 1 "_law_take" ["state", "many"] [] (sp__law_take P w K)) (n_len : mg "len" = none) (n_range : mg "range" = none) (hr : Room 1 (A.deeper (envOfC "_law_turned" (defScope s__law_turned) s.heap.objs.size f cdv))) :
  PSs (cxOf CX0 P w K mg base ["state", "pairs", "left", "k"] "_law_turned" (defScope s__law_turned) f cdv A outer s H E).nox (defBody s__law_turned) (t__law_turned P w K Z ) :=
    (pss_cons (ps_set (i := 2) sc__law_turned.nd rfl (Or.inr rfl) (pe_op op_gAdd (pv 1) (pe_slice sl_g (pv 1) po_none (po_some (pe_cal C__law_take (hr.mono (by decide)) (by rfl) pass0 (pa_cons (pv 0) (pa_cons pe_int pa_nil)))))))
    (pss_one (ps_ret (pe_lc (own := [("k", 3)]) (g := gName 3) (tt := tYes) rfl sc__law_turned.nd (pi_range1 rfl n_range (pa_cons (pe_callB call_gLen (by rfl) n_len (by decide +kernel) (pa_cons (pv 2) pa_nil)) pa_nil)) (blkOk_by (own := [("k", 3)]) (N := ["state", "pairs", "left", "k"]) (sc := defScope s__law_turned) (by first | decide +kernel | exact rfl)) (fun _ _ _ _ _ => pg_name (i := 3) sc__law_turned.nd rfl (Or.inl rfl)) (fun _ _ _ _ _ => pts_nil) (fun _ _ _ _ _ => (pe_bm PySem.F.plainAttrs_list PySem.F.slot_list_pop PySem.F.type_list_pop mt_popAt (pv 2) (pa_cons (pe_cal C__law_take (hr.mono (by decide)) (by rfl) pass0 (pa_cons (pv 0) (pa_cons (pe_callB call_gLen (by rfl) n_len (by decide +kernel) (pa_cons (pv 2) pa_nil)) pa_nil))) pa_nil)))))))

def t__law_right (K : PySem.W.Frag) (Z : Ads)  : TS :=
    (tSeq (tAsg (tCall (sp__law_held K) [] E0 (tCons (tVar 0) (tCons (tVar 1) tNil))) (gName 2))
    (tSeq (tAsg (tLc (iList K (tVar 0)) (gTup K 2 (gCons (gName 7) (gCons (gName 8) gNil))) tYes (tMk Z.Rule 2 0 (sp_Rule___init__ K Z) (g_Rule_2 Z) (fun _ => E0) (tCons (tVar 7) (tCons (tVar 8) tNil)) tNil) [7, 8]) (gName 3))
    (tSeq (tAsg (tLc (iList K (tVar 3)) (gName 9) tYes (tMeth Z.Rule "told" (sp_Rule_told K Z) [] E0 (tVar 9) tNil) [9]) (gName 4))
    (tSeq (tAsg (tCB (Evl.rListS K) (tCons (tVar 1) tNil)) (gName 5))
    (tSeq (tAsg (tCallK (sp_held K Z) (fun vs zs => vs ++ zs.reverse) E0 tNil (tCons (tVar 5) (tCons (tVar 3) tNil))) (gName 6))
    (tSeq (tIfS (tNot (tB (tCall (sp__law_same K) [] E0 (tCons (tVar 6) (tCons (tCB (gSorted K) (tCons (tVar 2) tNil)) tNil))))) (tRet (tC (.bl false))) tNext)
    (tSeq (tDrop (tBM K "list" rAppend (tVar 6) (tCons (tC (.str "zz")) tNil)))
    (tSeq (tIfS (tOr (tTest (tOp (gNe K) (tLc (iList K (tVar 3)) (gName 9) tYes (tMeth Z.Rule "told" (sp_Rule_told K Z) [] E0 (tVar 9) tNil) [9]) (tVar 4))) (tTest (tOp (gNe K) (tVar 5) (tVar 1)))) (tRet (tC (.bl false))) tNext)
    (tSeq (tIfS (tTest (tOp (gNe K) (tCall (sp_held K Z) [] E0 (tCons (tCB (rTupleS K) (tCons (tVar 3) tNil)) (tCons (tCB (rTupleS K) (tCons (tVar 5) tNil)) tNil))) (tSl (gSl K) (tVar 6) tNoPart (tPart (tUn (rU fun i => .int (-i)) (tC (.int 1))))))) (tRet (tC (.bl false))) tNext)
    (tRet (tOp (gEq K) (tLst (tCons (tCallK (sp_clash K Z) (kwAll) E0 tNil (tCons (tVar 3) (tCons (tVar 5) tNil))) (tCons (tCall (sp_clash K Z) [] E0 (tCons (tCB (rTupleS K) (tCons (tVar 3) tNil)) (tCons (tCB (rTupleS K) (tCons (tVar 5) tNil)) tNil))) tNil))) (tOp (rOr gMul rRep) (tLst (tCons (tCall (sp__law_clash K) [] E0 (tCons (tVar 0) (tCons (tVar 2) tNil))) tNil)) (tC (.int 2))))))))))))))
theorem d__law_right {f : Addr} {cdv : Value} {A : Around} {outer : List Env} {s : Shared} {H : Hp} {E : XK}  (C__law_clash : Cal P w K mg base CX0 1 "_law_clash" ["pairs", "names"] [] (sp__law_clash K)) (C__law_held : Cal P w K mg base CX0 1 "_law_held" ["pairs", "some"] [] (sp__law_held K)) (C__law_same : Cal P w K mg base CX0 2 "_law_same" ["found", "due"] [] (sp__law_same K)) (C_clash : Cal P w K mg base CX0 7 "clash" ["rules", "grounds"] [] (sp_clash K Z)) (C_held : Cal P w K mg base CX0 7 "held" ["rules", "grounds"] [] (sp_held K Z)) (C_clash_k_rules_grounds : CalK P w K mg base CX0 7 "clash" ["rules", "grounds"] ["rules", "grounds"] (kwAll) (sp_clash K Z)) (C_held_k_grounds_rules : CalK P w K mg base CX0 7 "held" ["rules", "grounds"] ["grounds", "rules"] (fun vs zs => vs ++ zs.reverse) (sp_held K Z)) (M_Rule_2 : Ctor P w K mg base (L2.CX P w) 4 "Rule" Z.Rule 2 [] (g_Rule_2 Z) (sp_Rule___init__ K Z)) (T_Rule_told : Met P w K mg base CX0 1 Z.Rule "told" (sp_Rule_told K Z)) (n_list : mg "list" = none) (n_sorted : mg "sorted" = none) (n_tuple : mg "tuple" = none) (hr : Room 7 (A.deeper (envOfC "_law_right" (defScope s__law_right) s.heap.objs.size f cdv))) :
  PSs (cxOf CX0 P w K mg base ["pairs", "some", "due", "handed", "kept", "asked", "found", "head", "body", "one"] "_law_right" (defScope s__law_right) f cdv A outer s H E).nox (defBody s__law_right) (t__law_right K Z ) :=
    (pss_cons (ps_set (i := 2) sc__law_right.nd rfl (Or.inl rfl) (pe_cal C__law_held (hr.mono (by decide)) (by rfl) pass0 (pa_cons (pv 0) (pa_cons (pv 1) pa_nil))))
    (pss_cons (ps_setLc (i := 3) (own := [("head", 7), ("body", 8)]) (g := (gTup K 2 (gCons (gName 7) (gCons (gName 8) gNil)))) (tt := tYes) rfl sc__law_right.nd rfl rfl (sw_true rfl rfl rfl (by decide +kernel)) (pi_list (pv 0)) (blkOk_by (own := [("head", 7), ("body", 8)]) (N := ["pairs", "some", "due", "handed", "kept", "asked", "found", "head", "body", "one"]) (sc := defScope s__law_right) (by first | decide +kernel | exact rfl)) (fun _ _ _ _ _ => pg_tup rfl (pgs_cons (pg_name (i := 7) sc__law_right.nd rfl (Or.inl rfl)) (pgs_cons (pg_name (i := 8) sc__law_right.nd rfl (Or.inl rfl)) pgs_nil))) (fun _ _ _ _ _ => pts_nil) (fun _ _ _ _ _ => (pe_ctor (ks := []) M_Rule_2 (hr.mono (by decide)) (by rfl) (fun _ => passesAtL) (pa_cons (pv 7) (pa_cons (pv 8) pa_nil)) pk_nil)))
    (pss_cons (ps_setLc (i := 4) (own := [("one", 9)]) (g := gName 9) (tt := tYes) rfl sc__law_right.nd rfl rfl (sw_true rfl rfl rfl (by decide +kernel)) (pi_list (pv 3)) (blkOk_by (own := [("one", 9)]) (N := ["pairs", "some", "due", "handed", "kept", "asked", "found", "head", "body", "one"]) (sc := defScope s__law_right) (by first | decide +kernel | exact rfl)) (fun _ _ _ _ _ => pg_name (i := 9) sc__law_right.nd rfl (Or.inl rfl)) (fun _ _ _ _ _ => pts_nil) (fun _ _ _ _ _ => (pe_met0 T_Rule_told (hr.mono (by decide)) pass0 (pv 9))))
    (pss_cons (ps_set (i := 5) sc__law_right.nd rfl (Or.inl rfl) (pe_callTy call_list1 (by rfl) n_list (by decide +kernel) (pa_cons (pv 1) pa_nil)))
    (pss_cons (ps_set (i := 6) sc__law_right.nd rfl (Or.inl rfl) (pe_calK0 C_held_k_grounds_rules (hr.mono (by decide)) (by rfl) pass0 (pk_cons (pv 5) (pk_cons (pv 3) pk_nil))))
    (pss_cons (ps_if (pt_not (pt_val (pe_cal C__law_same (hr.mono (by decide)) (by rfl) pass0 (pa_cons (pv 6) (pa_cons (pe_callB (call_gSorted rfl) (by rfl) n_sorted (by decide +kernel) (pa_cons (pv 2) pa_nil)) pa_nil))))) (pss_one (ps_ret pe_bl)) pss_nil)
    (pss_cons (ps_expr (pe_bm PySem.F.plainAttrs_list PySem.F.slot_list_append PySem.F.type_list_append mt_append (pv 6) (pa_cons pe_str pa_nil)))
    (pss_cons (ps_if (PW.pt (pw_or (pt_cmpR (op_gNe hr.units) (pe_lc (own := [("one", 9)]) (g := gName 9) (tt := tYes) rfl sc__law_right.nd (pi_list (pv 3)) (blkOk_by (own := [("one", 9)]) (N := ["pairs", "some", "due", "handed", "kept", "asked", "found", "head", "body", "one"]) (sc := defScope s__law_right) (by first | decide +kernel | exact rfl)) (fun _ _ _ _ _ => pg_name (i := 9) sc__law_right.nd rfl (Or.inl rfl)) (fun _ _ _ _ _ => pts_nil) (fun _ _ _ _ _ => (pe_met0 T_Rule_told (hr.mono (by decide)) pass0 (pv 9)))) (pv 4) (by rfl)) (pw_or1 (pt_cmpR (op_gNe hr.units) (pv 5) (pv 1) (by rfl))))) (pss_one (ps_ret pe_bl)) pss_nil)
    (pss_cons (ps_if (pt_cmpR (op_gNe hr.units) (pe_cal C_held (hr.mono (by decide)) (by rfl) pass0 (pa_cons (pe_callTy call_tuple1 (by rfl) n_tuple (by decide +kernel) (pa_cons (pv 3) pa_nil)) (pa_cons (pe_callTy call_tuple1 (by rfl) n_tuple (by decide +kernel) (pa_cons (pv 5) pa_nil)) pa_nil))) (pe_slice sl_g (pv 6) po_none (po_some (pe_un un_neg pe_int))) (by rfl)) (pss_one (ps_ret pe_bl)) pss_nil)
    (pss_one (ps_ret (pe_cmpR (op_gEq hr.units) (pe_lst (pa_cons (pe_calK0 C_clash_k_rules_grounds (hr.mono (by decide)) (by rfl) pass0 (pk_cons (pv 3) (pk_cons (pv 5) pk_nil))) (pa_cons (pe_cal C_clash (hr.mono (by decide)) (by rfl) pass0 (pa_cons (pe_callTy call_tuple1 (by rfl) n_tuple (by decide +kernel) (pa_cons (pv 3) pa_nil)) (pa_cons (pe_callTy call_tuple1 (by rfl) n_tuple (by decide +kernel) (pa_cons (pv 5) pa_nil)) pa_nil))) pa_nil))) (pe_op (opOr op_gMul op_rep) (pe_lst (pa_cons (pe_cal C__law_clash (hr.mono (by decide)) (by rfl) pass0 (pa_cons (pv 0) (pa_cons (pv 2) pa_nil))) pa_nil)) pe_int) (by rfl)))))))))))))

def t_law (P : Program) (w : World) (K : PySem.W.Frag) (Z : Ads)  : TS :=
    (tSeq (tAsg (tCall (sp__law_begun P w K) [] E0 (tCons (tVar 0) tNil)) (gName 1))
    (tSeq (tAsg (tOp (gEq K) (tCall (sp__law_take P w K) [] E0 (tCons (tVar 1) (tCons (tC (.int 8)) tNil))) (tC (.int 0))) (gName 2))
    (tSeq (tAsg (tCall (sp__law_kept K) [] E0 tNil) (gName 3))
    (tSeq (tAsg (tCall (sp__law_names P w K) [] E0 (tCons (tVar 1) (tCons (tVar 3) (tCons (tIf (tTru K (tVar 2)) (tOp (gAdd K) (tC (.int 14)) (tCall (sp__law_take P w K) [] E0 (tCons (tVar 1) (tCons (tC (.int 9)) tNil)))) (tOp (gAdd K) (tC (.int 1)) (tCall (sp__law_take P w K) [] E0 (tCons (tVar 1) (tCons (tC (.int 9)) tNil))))) tNil)))) (gName 4))
    (tSeq (tAsg (tCall (sp__law_pairs P w K) [] E0 (tCons (tVar 1) (tCons (tVar 4) (tCons (tIf (tTru K (tVar 2)) (tC (.int 38)) (tC (.int 12))) tNil)))) (gName 5))
    (tSeq (tAsg (tCall (sp__law_some P w K) [] E0 (tCons (tVar 1) (tCons (tOp (gAdd K) (tVar 4) (tCall (sp__law_names P w K) [] E0 (tCons (tVar 1) (tCons (tVar 3) (tCons (tCall (sp__law_take P w K) [] E0 (tCons (tVar 1) (tCons (tC (.int 3)) tNil))) tNil))))) tNil))) (gName 6))
    (tSeq (tIfS (tOr (tNot (tB (tCall (sp__law_right K Z) [] E0 (tCons (tVar 5) (tCons (tVar 6) tNil))))) (tNot (tB (tCall (sp__law_right K Z) [] E0 (tCons (tCall (sp__law_turned P w K) [] E0 (tCons (tVar 1) (tCons (tVar 5) tNil))) (tCons (tVar 6) tNil)))))) (tRet (tC (.bl false))) tNext)
    (tSeq (tAsg (tLc (iList K (tVar 5)) (gTup K 2 (gCons (gName 8) (gCons (gName 9) gNil))) tYes (tMk Z.Rule 2 0 (sp_Rule___init__ K Z) (g_Rule_2 Z) (fun _ => E0) (tCons (tVar 8) (tCons (tVar 9) tNil)) tNil) [8, 9]) (gName 7))
    (tRet (tAndV (tCB (gIsi K) (tCons (tCall (sp_clash K Z) [] E0 (tCons (tVar 7) (tCons (tVar 6) tNil))) (tCons (tC (.ty "bool")) tNil))) (tCB (gIsi K) (tCons (tCall (sp_clash K Z) [] E0 (tCons (tLst tNil) (tCons (tLst tNil) tNil))) (tCons (tC (.ty "bool")) tNil)))))))))))))
theorem d_law {f : Addr} {cdv : Value} {A : Around} {outer : List Env} {s : Shared} {H : Hp} {E : XK}  (C__law_begun : Cal P w K mg base CX0 1 "_law_begun" ["script"] [] (sp__law_begun P w K)) (C__law_kept : Cal P w K mg base CX0 1 "_law_kept" [] [] (sp__law_kept K)) (C__law_names : Cal P w K mg base CX0 3 "_law_names" ["state", "used", "many"] [] (sp__law_names P w K)) (C__law_pairs : Cal P w K mg base CX0 3 "_law_pairs" ["state", "names", "most"] [] (sp__law_pairs P w K)) (C__law_right : Cal P w K mg base CX0 8 "_law_right" ["pairs", "some"] [] (sp__law_right K Z)) (C__law_some : Cal P w K mg base CX0 2 "_law_some" ["state", "names"] [] (sp__law_some P w K)) (C__law_take : Cal P w K mg base CX0 1 "_law_take" ["state", "many"] [] (sp__law_take P w K)) (C__law_turned : Cal P w K mg base CX0 2 "_law_turned" ["state", "pairs"] [] (sp__law_turned P w K)) (C_clash : Cal P w K mg base CX0 7 "clash" ["rules", "grounds"] [] (sp_clash K Z)) (M_Rule_2 : Ctor P w K mg base (L2.CX P w) 4 "Rule" Z.Rule 2 [] (g_Rule_2 Z) (sp_Rule___init__ K Z)) (n_bool : mg "bool" = none) (n_isinstance : mg "isinstance" = none) (hr : Room 8 (A.deeper (envOfC "law" (defScope s_law) s.heap.objs.size f cdv))) :
  PSs (cxOf CX0 P w K mg base ["script", "state", "wide", "used", "words", "pairs", "some", "base", "head", "body"] "law" (defScope s_law) f cdv A outer s H E).nox (defBody s_law) (t_law P w K Z ) :=
    (pss_cons (ps_set (i := 1) sc_law.nd rfl (Or.inl rfl) (pe_cal C__law_begun (hr.mono (by decide)) (by rfl) pass0 (pa_cons (pv 0) pa_nil)))
    (pss_cons (ps_set (i := 2) sc_law.nd rfl (Or.inl rfl) (pe_cmpR (op_gEq hr.units) (pe_cal C__law_take (hr.mono (by decide)) (by rfl) pass0 (pa_cons (pv 1) (pa_cons pe_int pa_nil))) pe_int (by rfl)))
    (pss_cons (ps_set (i := 3) sc_law.nd rfl (Or.inl rfl) (pe_cal0 C__law_kept (hr.mono (by decide)) (by rfl) pass0))
    (pss_cons (ps_set (i := 4) sc_law.nd rfl (Or.inl rfl) (pe_cal C__law_names (hr.mono (by decide)) (by rfl) pass0 (pa_cons (pv 1) (pa_cons (pv 3) (pa_cons (pe_ifExp (pt_truth (pv 2) (by intro _; rfl)) (pe_op op_gAdd pe_int (pe_cal C__law_take (hr.mono (by decide)) (by rfl) pass0 (pa_cons (pv 1) (pa_cons pe_int pa_nil)))) (pe_op op_gAdd pe_int (pe_cal C__law_take (hr.mono (by decide)) (by rfl) pass0 (pa_cons (pv 1) (pa_cons pe_int pa_nil))))) pa_nil)))))
    (pss_cons (ps_set (i := 5) sc_law.nd rfl (Or.inl rfl) (pe_cal C__law_pairs (hr.mono (by decide)) (by rfl) pass0 (pa_cons (pv 1) (pa_cons (pv 4) (pa_cons (pe_ifExp (pt_truth (pv 2) (by intro _; rfl)) pe_int pe_int) pa_nil)))))
    (pss_cons (ps_set (i := 6) sc_law.nd rfl (Or.inl rfl) (pe_cal C__law_some (hr.mono (by decide)) (by rfl) pass0 (pa_cons (pv 1) (pa_cons (pe_op op_gAdd (pv 4) (pe_cal C__law_names (hr.mono (by decide)) (by rfl) pass0 (pa_cons (pv 1) (pa_cons (pv 3) (pa_cons (pe_cal C__law_take (hr.mono (by decide)) (by rfl) pass0 (pa_cons (pv 1) (pa_cons pe_int pa_nil))) pa_nil))))) pa_nil))))
    (pss_cons (ps_if (PW.pt (pw_or (pt_not (pt_val (pe_cal C__law_right (hr.mono (by decide)) (by rfl) pass0 (pa_cons (pv 5) (pa_cons (pv 6) pa_nil))))) (pw_or1 (pt_not (pt_val (pe_cal C__law_right (hr.mono (by decide)) (by rfl) pass0 (pa_cons (pe_cal C__law_turned (hr.mono (by decide)) (by rfl) pass0 (pa_cons (pv 1) (pa_cons (pv 5) pa_nil))) (pa_cons (pv 6) pa_nil)))))))) (pss_one (ps_ret pe_bl)) pss_nil)
    (pss_cons (ps_setLc (i := 7) (own := [("head", 8), ("body", 9)]) (g := (gTup K 2 (gCons (gName 8) (gCons (gName 9) gNil)))) (tt := tYes) rfl sc_law.nd rfl rfl (sw_true rfl rfl rfl (by decide +kernel)) (pi_list (pv 5)) (blkOk_by (own := [("head", 8), ("body", 9)]) (N := ["script", "state", "wide", "used", "words", "pairs", "some", "base", "head", "body"]) (sc := defScope s_law) (by first | decide +kernel | exact rfl)) (fun _ _ _ _ _ => pg_tup rfl (pgs_cons (pg_name (i := 8) sc_law.nd rfl (Or.inl rfl)) (pgs_cons (pg_name (i := 9) sc_law.nd rfl (Or.inl rfl)) pgs_nil))) (fun _ _ _ _ _ => pts_nil) (fun _ _ _ _ _ => (pe_ctor (ks := []) M_Rule_2 (hr.mono (by decide)) (by rfl) (fun _ => passesAtL) (pa_cons (pv 8) (pa_cons (pv 9) pa_nil)) pk_nil)))
    (pss_one (ps_ret (pe_and (pe_callB call_gIsi (by rfl) n_isinstance (by decide +kernel) (pa_cons (pe_cal C_clash (hr.mono (by decide)) (by rfl) pass0 (pa_cons (pv 7) (pa_cons (pv 6) pa_nil))) (pa_cons (pe_bltn (v := .ty "bool") (by rfl) n_bool (by decide +kernel) rfl) pa_nil))) (pe_one (pe_callB call_gIsi (by rfl) n_isinstance (by decide +kernel) (pa_cons (pe_cal C_clash (hr.mono (by decide)) (by rfl) pass0 (pa_cons (pe_lst pa_nil) (pa_cons (pe_lst pa_nil) pa_nil))) (pa_cons (pe_bltn (v := .ty "bool") (by rfl) n_bool (by decide +kernel) rfl) pa_nil)))))))))))))))

end
end K11

set_option maxHeartbeats 800000
namespace K11
open PySem PySem.Spec PyProof.Rows L2 Evl Gx
local macro_rules | `(tactic| walk_at "get") => `(tactic| first
  | assumption
  | exact upd_same
  | ((with_reducible refine sq_l ?_); walk_at "get")
  | ((with_reducible refine sq_t ?_); walk_at "get")
  | ((with_reducible refine ex_l (by assumption) ?_); walk_at "get")
  | ((with_reducible refine ex_t (by assumption) ?_); walk_at "get")
  | ((with_reducible refine Draw.ex (by assumption) ?_); walk_at "get")
  | ((with_reducible refine Arg.ex (by assumption) ?_); walk_at "get")
  | ((with_reducible refine IsRule.ex (by assumption) ?_); walk_at "get")
  | ((with_reducible refine Thing.ex (by assumption) ?_); walk_at "get")
  | ((with_reducible refine exget (by assumption) ?_); walk_at "get"))
local macro_rules | `(tactic| walk_at "rd1") => `(tactic| first
  | (with_reducible refine c_seq ?_)
  | (with_reducible refine c_next ?_)
  | (with_reducible refine c_drop ?_)
  | (with_reducible refine c_ret ?_)
  | (with_reducible refine c_retN ?_)
  | (with_reducible refine c_ifs ?_)
  | (with_reducible refine c_c ?_)
  | (with_reducible refine c_op ?_)
  | (with_reducible refine c_un ?_)
  | (with_reducible refine c_cb ?_)
  | (with_reducible refine c_nil ?_)
  | (with_reducible refine c_cons ?_)
  | (with_reducible refine c_call ?_)
  | (with_reducible refine c_callK ?_)
  | (with_reducible refine c_test ?_)
  | (with_reducible refine c_tB ?_)
  | (with_reducible refine c_and ?_)
  | (with_reducible refine c_or ?_)
  | (with_reducible refine c_not ?_)
  | (with_reducible refine c_andV ?_)
  | (with_reducible refine c_orV ?_)
  | (with_reducible refine c_notV ?_)
  | (with_reducible refine c_if ?_)
  | (with_reducible refine c_chain ?_)
  | (with_reducible refine c_sl ?_)
  | (with_reducible refine c_nop ?_)
  | (with_reducible refine c_part ?_)
  | (with_reducible refine c_lst ?_)
  | (with_reducible refine c_tup ?_)
  | (with_reducible refine c_bl ?_)
  | (with_reducible refine c_blP ?_)
  | (with_reducible refine c_parti ?_)
  | (with_reducible refine c_t ?_)
  | (with_reducible refine c_f ?_)
  | (with_reducible refine g_add_i ?_)
  | (with_reducible refine g_sub_i ?_)
  | (with_reducible refine g_neg ?_)
  | (with_reducible refine g_eq_i ?_)
  | (with_reducible refine g_eq_st ?_)
  | (with_reducible refine g_eq_b ?_)
  | (with_reducible refine g_ne_i ?_)
  | (with_reducible refine g_ne_st ?_)
  | (with_reducible refine g_ne_b ?_)
  | (with_reducible refine g_lt_i ?_)
  | (with_reducible refine g_le_i ?_)
  | (with_reducible refine g_gt_i ?_)
  | (with_reducible refine g_ge_i ?_)
  | (with_reducible refine g_le_s ?_)
  | (with_reducible refine g_in_s ?_)
  | (with_reducible refine g_ni_s ?_)
  | (with_reducible refine c_brk ?_)
  | (with_reducible refine c_cont ?_)
  | (with_reducible refine c_for ?_)
  | (with_reducible refine c_lcW ?_)
  | (with_reducible refine c_iList ?_)
  | (with_reducible refine c_iTup ?_)
  | (with_reducible refine c_iStr ?_)
  | (with_reducible refine c_iRng1 ?_)
  | (with_reducible refine c_iS ?_)
  | (with_reducible refine c_yes ?_)
  | (with_reducible refine c_sub ?_)
  | (with_reducible refine c_pair ?_)
  | (with_reducible refine c_pnil ?_)
  | (with_reducible refine c_isn ?_)
  | (with_reducible refine c_notn ?_)
  | (with_reducible refine c_sfld ?_)
  | (with_reducible refine c_fld ?_)
  | (with_reducible refine c_raise ?_)
  | (with_reducible refine c_meth0 ?_)
  | (with_reducible refine c_iEnum ?_)
  | (with_reducible refine c_bm ?_)
  | (with_reducible refine c_bm0 ?_)
  | (with_reducible refine c_mk ?_)
  | (with_reducible refine c_try ?_)
  | (with_reducible refine c_iEnumT ?_)
  | (with_reducible refine c_callKS ?_)
  | (with_reducible refine c_tryO ?_)
  | (with_reducible refine c_repl ?_)
  | (with_reducible refine c_fmt ?_)
  | (with_reducible refine c_fs ?_)
  | (with_reducible refine c_jn ?_)
  | (with_reducible refine c_jc ?_)
  | (with_reducible refine c_tru ?_)
  | (with_reducible refine c_m1 ?_)
  | (with_reducible refine c_dget ?_)
  | (with_reducible refine c_din ?_)
  | (with_reducible refine c_dni ?_)
  | (with_reducible refine c_dput ?_)
  | (with_reducible refine c_star ?_)
  | (with_reducible refine c_while ?_)
  | (with_reducible refine c_dcW ?_)
  | (with_reducible refine c_var0 ?_)
  | (with_reducible refine c_asg0 ?_)
  | (with_reducible refine c_nam0 ?_)
  | (with_reducible refine c_var1 ?_)
  | (with_reducible refine c_asg1 ?_)
  | (with_reducible refine c_nam1 ?_)
  | (with_reducible refine c_var2 ?_)
  | (with_reducible refine c_asg2 ?_)
  | (with_reducible refine c_nam2 ?_)
  | (with_reducible refine c_var3 ?_)
  | (with_reducible refine c_asg3 ?_)
  | (with_reducible refine c_nam3 ?_)
  | (with_reducible refine c_var4 ?_)
  | (with_reducible refine c_asg4 ?_)
  | (with_reducible refine c_nam4 ?_)
  | (with_reducible refine c_var5 ?_)
  | (with_reducible refine c_asg5 ?_)
  | (with_reducible refine c_nam5 ?_)
  | (with_reducible refine c_var6 ?_)
  | (with_reducible refine c_asg6 ?_)
  | (with_reducible refine c_nam6 ?_)
  | (with_reducible refine c_var7 ?_)
  | (with_reducible refine c_asg7 ?_)
  | (with_reducible refine c_nam7 ?_)
  | (with_reducible refine c_var8 ?_)
  | (with_reducible refine c_asg8 ?_)
  | (with_reducible refine c_nam8 ?_)
  | (with_reducible refine c_var9 ?_)
  | (with_reducible refine c_asg9 ?_)
  | (with_reducible refine c_nam9 ?_)
  | (with_reducible refine c_var10 ?_)
  | (with_reducible refine c_asg10 ?_)
  | (with_reducible refine c_nam10 ?_)
  | (with_reducible refine c_var11 ?_)
  | (with_reducible refine c_asg11 ?_)
  | (with_reducible refine c_nam11 ?_)
  | (with_reducible refine c_var12 ?_)
  | (with_reducible refine c_asg12 ?_)
  | (with_reducible refine c_nam12 ?_)
  | (with_reducible refine c_var13 ?_)
  | (with_reducible refine c_asg13 ?_)
  | (with_reducible refine c_nam13 ?_)
  | (with_reducible refine c_var14 ?_)
  | (with_reducible refine c_asg14 ?_)
  | (with_reducible refine c_nam14 ?_)
  | (with_reducible refine c_var15 ?_)
  | (with_reducible refine c_asg15 ?_)
  | (with_reducible refine c_nam15 ?_)
  | (with_reducible refine c_asgG ?_)
  | ((with_reducible refine g_ix_l (xs := ?gxa) (v := ?gxb) ?gx1 ?gx2 ?gx3); (case gx1 => walk_at "get"); (case gx2 => rfl))
  | ((with_reducible refine g_len_l (xs := ?gxa) (.inl ?gx1) ?gx3); (case gx1 => walk_at "get"))
  | ((with_reducible refine g_mod_i ?gx1 ?gx3); (case gx1 => omega)))
local macro_rules | `(tactic| walk_at "rd") => `(tactic| repeat walk_at "rd1")
local macro_rules | `(tactic| walk_at "rs1") => `(tactic| first
  | (with_reducible refine c_next ?_)
  | (with_reducible refine c_drop ?_)
  | (with_reducible refine c_ret ?_)
  | (with_reducible refine c_retN ?_)
  | (with_reducible refine c_ifs ?_)
  | (with_reducible refine c_c ?_)
  | (with_reducible refine c_op ?_)
  | (with_reducible refine c_un ?_)
  | (with_reducible refine c_cb ?_)
  | (with_reducible refine c_nil ?_)
  | (with_reducible refine c_cons ?_)
  | (with_reducible refine c_call ?_)
  | (with_reducible refine c_callK ?_)
  | (with_reducible refine c_test ?_)
  | (with_reducible refine c_tB ?_)
  | (with_reducible refine c_and ?_)
  | (with_reducible refine c_or ?_)
  | (with_reducible refine c_not ?_)
  | (with_reducible refine c_andV ?_)
  | (with_reducible refine c_orV ?_)
  | (with_reducible refine c_notV ?_)
  | (with_reducible refine c_chain ?_)
  | (with_reducible refine c_sl ?_)
  | (with_reducible refine c_nop ?_)
  | (with_reducible refine c_part ?_)
  | (with_reducible refine c_lst ?_)
  | (with_reducible refine c_tup ?_)
  | (with_reducible refine c_bl ?_)
  | (with_reducible refine c_blP ?_)
  | (with_reducible refine c_parti ?_)
  | (with_reducible refine c_t ?_)
  | (with_reducible refine c_f ?_)
  | (with_reducible refine g_add_i ?_)
  | (with_reducible refine g_sub_i ?_)
  | (with_reducible refine g_neg ?_)
  | (with_reducible refine g_eq_i ?_)
  | (with_reducible refine g_eq_st ?_)
  | (with_reducible refine g_eq_b ?_)
  | (with_reducible refine g_ne_i ?_)
  | (with_reducible refine g_ne_st ?_)
  | (with_reducible refine g_ne_b ?_)
  | (with_reducible refine g_lt_i ?_)
  | (with_reducible refine g_le_i ?_)
  | (with_reducible refine g_gt_i ?_)
  | (with_reducible refine g_ge_i ?_)
  | (with_reducible refine g_le_s ?_)
  | (with_reducible refine g_in_s ?_)
  | (with_reducible refine g_ni_s ?_)
  | (with_reducible refine c_brk ?_)
  | (with_reducible refine c_cont ?_)
  | (with_reducible refine c_for ?_)
  | (with_reducible refine c_lcW ?_)
  | (with_reducible refine c_iList ?_)
  | (with_reducible refine c_iTup ?_)
  | (with_reducible refine c_iStr ?_)
  | (with_reducible refine c_iRng1 ?_)
  | (with_reducible refine c_iS ?_)
  | (with_reducible refine c_yes ?_)
  | (with_reducible refine c_sub ?_)
  | (with_reducible refine c_pair ?_)
  | (with_reducible refine c_pnil ?_)
  | (with_reducible refine c_isn ?_)
  | (with_reducible refine c_notn ?_)
  | (with_reducible refine c_sfld ?_)
  | (with_reducible refine c_fld ?_)
  | (with_reducible refine c_raise ?_)
  | (with_reducible refine c_meth0 ?_)
  | (with_reducible refine c_iEnum ?_)
  | (with_reducible refine c_bm ?_)
  | (with_reducible refine c_bm0 ?_)
  | (with_reducible refine c_mk ?_)
  | (with_reducible refine c_try ?_)
  | (with_reducible refine c_iEnumT ?_)
  | (with_reducible refine c_callKS ?_)
  | (with_reducible refine c_tryO ?_)
  | (with_reducible refine c_repl ?_)
  | (with_reducible refine c_fmt ?_)
  | (with_reducible refine c_fs ?_)
  | (with_reducible refine c_jn ?_)
  | (with_reducible refine c_jc ?_)
  | (with_reducible refine c_tru ?_)
  | (with_reducible refine c_m1 ?_)
  | (with_reducible refine c_dget ?_)
  | (with_reducible refine c_din ?_)
  | (with_reducible refine c_dni ?_)
  | (with_reducible refine c_dput ?_)
  | (with_reducible refine c_star ?_)
  | (with_reducible refine c_while ?_)
  | (with_reducible refine c_dcW ?_)
  | (with_reducible refine c_var0 ?_)
  | (with_reducible refine c_asg0 ?_)
  | (with_reducible refine c_nam0 ?_)
  | (with_reducible refine c_var1 ?_)
  | (with_reducible refine c_asg1 ?_)
  | (with_reducible refine c_nam1 ?_)
  | (with_reducible refine c_var2 ?_)
  | (with_reducible refine c_asg2 ?_)
  | (with_reducible refine c_nam2 ?_)
  | (with_reducible refine c_var3 ?_)
  | (with_reducible refine c_asg3 ?_)
  | (with_reducible refine c_nam3 ?_)
  | (with_reducible refine c_var4 ?_)
  | (with_reducible refine c_asg4 ?_)
  | (with_reducible refine c_nam4 ?_)
  | (with_reducible refine c_var5 ?_)
  | (with_reducible refine c_asg5 ?_)
  | (with_reducible refine c_nam5 ?_)
  | (with_reducible refine c_var6 ?_)
  | (with_reducible refine c_asg6 ?_)
  | (with_reducible refine c_nam6 ?_)
  | (with_reducible refine c_var7 ?_)
  | (with_reducible refine c_asg7 ?_)
  | (with_reducible refine c_nam7 ?_)
  | (with_reducible refine c_var8 ?_)
  | (with_reducible refine c_asg8 ?_)
  | (with_reducible refine c_nam8 ?_)
  | (with_reducible refine c_var9 ?_)
  | (with_reducible refine c_asg9 ?_)
  | (with_reducible refine c_nam9 ?_)
  | (with_reducible refine c_var10 ?_)
  | (with_reducible refine c_asg10 ?_)
  | (with_reducible refine c_nam10 ?_)
  | (with_reducible refine c_var11 ?_)
  | (with_reducible refine c_asg11 ?_)
  | (with_reducible refine c_nam11 ?_)
  | (with_reducible refine c_var12 ?_)
  | (with_reducible refine c_asg12 ?_)
  | (with_reducible refine c_nam12 ?_)
  | (with_reducible refine c_var13 ?_)
  | (with_reducible refine c_asg13 ?_)
  | (with_reducible refine c_nam13 ?_)
  | (with_reducible refine c_var14 ?_)
  | (with_reducible refine c_asg14 ?_)
  | (with_reducible refine c_nam14 ?_)
  | (with_reducible refine c_var15 ?_)
  | (with_reducible refine c_asg15 ?_)
  | (with_reducible refine c_nam15 ?_)
  | (with_reducible refine c_asgG ?_)
  | ((with_reducible refine g_ix_l (xs := ?gxa) (v := ?gxb) ?gx1 ?gx2 ?gx3); (case gx1 => walk_at "get"); (case gx2 => rfl))
  | ((with_reducible refine g_len_l (xs := ?gxa) (.inl ?gx1) ?gx3); (case gx1 => walk_at "get"))
  | ((with_reducible refine g_mod_i ?gx1 ?gx3); (case gx1 => omega)))
local macro_rules | `(tactic| walk_at "rs") => `(tactic| repeat walk_at "rs1")
section
variable {P : Program} {w : World} {K : PySem.W.Frag} {mg : Str → Option Value} {base : Heap} {Z : Ads}
theorem rd_is_small_letter {vs : List V} {H : Hp} {Q : VK} {E : XK} (h : sp_is_small_letter K vs H Q E) : t_is_small_letter K Z { nx := fun _ H' => Q .non H', rt := Q } (start ["sign"] vs) H := by
  obtain ⟨c, rfl, q⟩ := h
  show t_is_small_letter K Z _ [some (.str ⟨#[c]⟩)] H
  unfold t_is_small_letter
  walk_at "rd"
  rw [show (⟨#[c]⟩ : Str).cps.toList = [c] from rfl, lt_a]
  refine c_nd (fun h1 => ?_) (fun h1 => ?_)
  · walk_at "rd"
    rw [show (⟨#[c]⟩ : Str).cps.toList = [c] from rfl, lt_z]
    have e : (!decide (122 < c)) = isLet c := by unfold isLet; rw [Bool.eq_iff_iff]; simp; omega
    rw [e]
    exact q H (Ex.refl H)
  · have e : isLet c = false := by unfold isLet; simp; omega
    have := q H (Ex.refl H)
    rw [e] at this
    exact this
theorem rd_is_name {T : Addr} {vs : List V} {H : Hp} {Q : VK} {E : XK} (hT : ∀ H, SqT K H T (taken.map V.str)) (h : sp_is_name K vs H Q E) : t_is_name K Z (.int 8) (.ref T) { nx := fun _ H' => Q .non H', rt := Q } (start ["thing", "sign"] vs) H := by
  obtain ⟨x, rfl, hx, q⟩ := h
  show t_is_name K Z _ _ _ [some x, none] H
  unfold t_is_name
  walk_at "rd"
  refine g_isi_str hx ?_
  walk_at "rd"
  cases hs : isStr x with
  | false =>
    show if (!false) = true then _ else _
    refine c_2 (fun _ => ?_) (fun h => (by cases h))
    walk_at "rd"
    have e : isNm x = false := by
      cases x with
      | str z => cases hs
      | _ => rfl
    have := q H (Ex.refl H)
    rw [e] at this
    exact this
  | true =>
    obtain ⟨z, rfl⟩ : ∃ z, x = .str z := by
      cases x with
      | str z => exact ⟨z, rfl⟩
      | _ => cases hs
    have hz : z.length ≤ 1000 := hx.1
    have no : ∀ {b : Bool}, nameS z = b → Q (.bl b) H := fun {b} e => by
      have := q H (Ex.refl H)
      rw [show isNm (.str z) = b from e] at this
      exact this
    refine c_2 (fun h => (by cases h)) (fun _ => ?_)
    walk_at "rd"
    refine g_len_s (z := z) (by omega) ?_
    walk_at "rd"
    refine c_d (fun h1 => ?_) (fun h1 => ?_)
    · walk_at "rd"
      refine c_nd (fun h2 => ?_) (fun h2 => ?_)
      · walk_at "rd"
        refine no ?_
        unfold nameS
        rw [decide_eq_false (by omega)]; rfl
      · walk_at "rd"
        refine g_ni_l (.inr (hT H)) rfl (flat_str taken) ?_
        rw [inV_strs]
        walk_at "rd"
        refine c_nd (fun h3 => ?_) (fun h3 => ?_)
        · walk_at "rd"
          refine c_lc walk_str (fun i acc => acc = ((z.cps.toList.take i).map isLet).map V.bl) (σ0 := [some (.str z), none]) rfl (by rw [show z.cps.size = z.length from rfl]; omega) rfl (fun _ _ => trivial) ?_ ?_
          · intro i acc x H2 H3 Q1 Q0 hi hacc e2 hy k1 k0
            obtain ⟨e3, c, hc, rfl⟩ := hy
            subst e3
            walk_at "rd"
            refine ⟨rfl, ?_⟩
            walk_at "rd"
            refine c_issmall (fun H4 e4 => k1 _ _ e4 ?_)
            have hc' : z.cps.toList[i]? = some c := by rw [Array.getElem?_toList]; exact hc
            rw [hacc, List.take_add_one, hc', List.map_append, List.map_append]; rfl
          · intro D H2 xs nD e2 hxs _ hD
            rw [List.take_of_length_le (by rw [len_tl]; exact Nat.le_refl _)] at hxs
            subst hxs
            walk_at "rd"
            refine g_all (sq_l hD) ?_
            rw [all_mapid]
            have := q H2 e2
            rw [show isNm (.str z) = z.cps.toList.all isLet by
              show nameS z = _
              unfold nameS
              rw [decide_eq_true (show 1 ≤ z.length ∧ z.length ≤ 8 by omega), decide_eq_true h3]; simp] at this
            exact this
        · refine no ?_
          unfold nameS
          rw [decide_eq_false (show ¬ z ∉ taken from fun h => h h3)]; simp
    · walk_at "rd"
      refine no ?_
      unfold nameS
      rw [decide_eq_false (by omega)]; rfl
theorem rd_is_names {vs : List V} {H : Hp} {Q : VK} {E : XK} (h : sp_is_names K vs H Q E) : t_is_names K Z { nx := fun _ H' => Q .non H', rt := Q } (start ["thing", "most", "one"] vs) H := by
  obtain ⟨x, m, o, rfl, hx, hm, q⟩ := h
  show t_is_names K Z _ [some x, some (.int (m : Nat)), none] H
  unfold t_is_names
  walk_at "rd"
  refine c_tupE (by simp) (fun p H1 n1 e1 h1 => ?_)
  walk_at "rd"
  refine g_isi_lt h1 (hx.ex e1) ?_
  walk_at "rd"
  cases o with
  | none =>
    refine c_t ?_
    walk_at "rd"
    exact q H1 e1
  | some xs =>
    refine c_f ?_
    have hx1 := hx.ex e1
    obtain ⟨⟨p, rfl, hp⟩, hl, hth⟩ := hx1
    walk_at "rd"
    refine g_len_l hp ?_
    walk_at "rd"
    refine c_d (fun h2 => ?_) (fun h2 => ?_)
    · walk_at "rd"
      have := q H1 e1
      rw [show nmsO (some xs) m = false by rw [nmsO_some]; rw [decide_eq_false (by omega)]; rfl] at this
      exact this
    · walk_at "rd"
      have fin : ∀ D H' ys, H1 D = none → Ex H1 H' → ys = (xs.map isNm).map V.bl → ys.length ≤ xs.length → H' D = some (.lst ys) → 
          tCB (rAll K) (tCons (tC (.ref D)) tNil) [some (.ref p), some (.int (m : Nat)), none] H' (fun x H1 => ∃ c, x = .bl c ∧ if c = true then tOp (gEq K) (tLenSetS K (tVar 0)) (tCB (gLen K) (tCons (tVar 0) tNil)) [some (.ref p), some (.int (m : Nat)), none] H1 Q else Q (.bl false) H1) := by
        intro D H' ys nD e2 hys _ hD
        subst hys
        walk_at "rd"
        refine g_all (sq_l hD) ?_
        rw [all_mapid]
        walk_at "rd"
        cases ha : xs.all isNm with
        | false =>
          refine c_f ?_
          have := q H' (e1.trans e2)
          rw [show nmsO (some xs) m = false by rw [nmsO_some]; rw [ha]; simp] at this
          exact this
        | true =>
          refine c_t ?_
          obtain ⟨ss, rfl, hs⟩ := nms_strs ha
          walk_at "rd"
          have hp' : SqL K H' p (ss.map V.str) ∨ SqT K H' p (ss.map V.str) := hp.elim (fun z => .inl (ex_l e2 z)) (fun z => .inr (ex_t e2 z))
          rw [List.length_map] at hl
          refine ⟨_, rfl, p, ss, rfl, hp', by omega, ?_⟩
          walk_at "rd"
          refine g_len_l hp' ?_
          walk_at "rd"
          have := q H' (e1.trans e2)
          rw [show nmsO (some (ss.map V.str)) m = decide (((metS ss).length : Int) = ((ss.map V.str).length : Int)) by
            rw [nmsO_some, ha, decide_eq_true (by omega), Bool.true_and, Bool.true_and, decide_eq_decide, nodup_strs, ← (metS_len ss.length ss rfl).2, List.length_map]
            omega] at this
          exact this
      have turn : ∀ i acc (y : V) H2 (Q1 : V → Hp → Prop) (Q0 : Hp → Prop), i < xs.length → acc = ((xs.take i).map isNm).map V.bl → Ex H1 H2 → xs[i]? = some y → (∀ z H6, Ex H2 H6 → acc ++ [z] = ((xs.take (i + 1)).map isNm).map V.bl → Q1 z H6) →
          gName 2 y [some (.ref p), some (.int (m : Nat)), none] H2 fun σ2 H4 => wipe σ2 [2] = [some (.ref p), some (.int (m : Nat)), none] ∧ tYes σ2 H4 fun b H5 => if b = true then tCall (sp_is_name K) [] E0 (tCons (tVar 2) tNil) σ2 H5 Q1 else Q0 H5 := by
        intro i acc y H2 Q1 Q0 hi hacc e2 hy k1
        walk_at "rd"
        refine ⟨rfl, ?_⟩
        walk_at "rd"
        refine c_isname ((hth y (List.mem_of_getElem? hy)).ex e2) (fun H4 e4 => k1 _ _ e4 ?_)
        rw [hacc, List.take_add_one, hy, List.map_append, List.map_append]; rfl
      rcases hp with hp | hp
      · refine .inl ?_
        walk_at "rd"
        refine c_iL hp ?_
        exact c_lc walk_list (fun i acc => acc = ((xs.take i).map isNm).map V.bl) (σ0 := [some (.ref p), some (.int (m : Nat)), none]) rfl (by omega) rfl (fun _ e => ex_l e hp) (fun i acc x H2 H3 Q1 Q0 hi ha e2 hy k1 _ => by
          obtain ⟨rfl, hy⟩ := hy
          exact turn i acc x _ Q1 Q0 hi ha e2 hy k1) (fun D H' ys nD e2 hys hl2 hD => fin D H' ys nD e2 (by rw [hys, List.take_length]) hl2 hD)
      · refine .inr ?_
        walk_at "rd"
        refine c_iT hp ?_
        exact c_lc walk_tup (fun i acc => acc = ((xs.take i).map isNm).map V.bl) (σ0 := [some (.ref p), some (.int (m : Nat)), none]) rfl (by omega) rfl (fun _ e => ex_t e hp) (fun i acc x H2 H3 Q1 Q0 hi ha e2 hy k1 _ => by
          obtain ⟨rfl, hy⟩ := hy
          exact turn i acc x _ Q1 Q0 hi ha e2 hy k1) (fun D H' ys nD e2 hys hl2 hD => fin D H' ys nD e2 (by rw [hys, List.take_length]) hl2 hD)
theorem rd_Rule___init__ {vs : List V} {H : Hp} {Q : VK} {E : XK} (R : RuleC K Z.Rule) (h : sp_Rule___init__ K Z vs H Q E) : t_Rule___init__ K Z E (.int 6) (.int 4) { nx := fun _ H' => Q .non H', rt := Q } (start ["self", "head", "body", "unless"] vs) H := by
  obtain ⟨a, dx, h, b, u, ob, ou, rfl, ha, hh, hb, hu, good, bad⟩ := h
  show t_Rule___init__ K Z E _ _ _ [some (.ref a), some h, some b, some u] H
  unfold t_Rule___init__
  walk_at "rd"
  have bad1 : ∀ H', Ex H H' → (decide (h = .non) || isNm h) = false → E (.ref Z.BadRule) none H' := fun H' e g => bad (by unfold goodR; rw [g]; rfl) H' e
  have go : ∀ H1, Ex H H1 → (decide (h = .non) || isNm h) = true → 
      tSeq (tIfS (tNot (tB (tCall (sp_is_names K) [] E0 (tCons (tVar 2) (tCons (tC (.int 6)) tNil))))) (tRaiseO Z.BadRule (fun cls d _ H => E cls d H)) tNext)
    (tSeq (tIfS (tNot (tB (tCall (sp_is_names K) [] E0 (tCons (tVar 3) (tCons (tC (.int 4)) tNil))))) (tRaiseO Z.BadRule (fun cls d _ H => E cls d H)) tNext)
    (tSeq (sFld K (tVar 0) (tVar 1) "head")
    (tSeq (sFld K (tVar 0) (tCB (rTupleS K) (tCons (tVar 2) tNil)) "body")
    (sFld K (tVar 0) (tCB (rTupleS K) (tCons (tVar 3) tNil)) "unless")))) { nx := fun _ H' => Q .non H', rt := Q } [some (.ref a), some h, some b, some u] H1 := by
    intro H1 e1 g1
    walk_at "rd"
    refine ⟨b, 6, ob, rfl, hb.ex e1, by omega, fun H2 e2 => ?_⟩
    walk_at "rd"
    cases g2 : nmsO ob 6 with
    | false =>
      refine c_t ?_
      walk_at "rd"
      exact bad (by unfold goodR; rw [g2]; simp) H2 (e1.trans e2)
    | true =>
      refine c_f ?_
      walk_at "rd"
      refine ⟨u, 4, ou, rfl, hu.ex (e1.trans e2), by omega, fun H3 e3 => ?_⟩
      walk_at "rd"
      cases g3 : nmsO ou 4 with
      | false =>
        refine c_t ?_
        walk_at "rd"
        exact bad (by unfold goodR; rw [g3]; simp) H3 (e1.trans (e2.trans e3))
      | true =>
        refine c_f ?_
        walk_at "rd"
        have t3 := e1.trans (e2.trans e3)
        obtain ⟨bs, rfl⟩ : ∃ bs, ob = some bs := by
          cases ob with
          | none => cases g2
          | some bs => exact ⟨bs, rfl⟩
        obtain ⟨us, rfl⟩ : ∃ us, ou = some us := by
          cases ou with
          | none => cases g3
          | some us => exact ⟨us, rfl⟩
        obtain ⟨⟨pb, rfl, hpb⟩, -, -⟩ := hb.ex t3
        obtain ⟨⟨pu, rfl, hpu⟩, -, -⟩ := hu.ex t3
        have ha3 := t3 _ _ ha
        refine g_sfld ha3 R.cls R.nh (by simp) (fun H4 e4 ha4 => ?_)
        have ha4' : H4 a = some (.ins Z.Rule dx [("head", h)]) := ha4
        walk_at "rd"
        have hpb4 : SqL K H4 pb bs ∨ SqT K H4 pb bs := hpb.elim (fun q => .inl (sqL_exb ha3 e4 q)) (fun q => .inr (sqT_exb ha3 e4 q))
        refine g_tupleS hpb4 (fun r H5 e5 h5 => ?_)
        walk_at "rd"
        have ha5 := e5 _ _ ha4'
        refine g_sfld ha5 R.cls R.nb (by simp) (fun H6 e6 ha6 => ?_)
        have ha6' : H6 a = some (.ins Z.Rule dx [("head", h), ("body", .ref r)]) := ha6
        walk_at "rd"
        have hpu6 : SqL K H6 pu us ∨ SqT K H6 pu us := hpu.elim (fun q => .inl (sqL_exb ha5 e6 (ex_l e5 (sqL_exb ha3 e4 q)))) (fun q => .inr (sqT_exb ha5 e6 (ex_t e5 (sqT_exb ha3 e4 q))))
        refine g_tupleS hpu6 (fun r2 H7 e7 h7 => ?_)
        walk_at "rd"
        have ha7 := e7 _ _ ha6'
        refine g_sfld ha7 R.cls R.nu (by simp) (fun H8 e8 ha8 => ?_)
        have ha8' : H8 a = some (.ins Z.Rule dx [("head", h), ("body", .ref r), ("unless", .ref r2)]) := ha8
        refine good (by unfold goodR; rw [g1, g2, g3]; rfl) H8 (fun p o hp ho => ?_) ⟨dx, r, r2, ha8', sqT_exb ha7 e8 (ex_t e7 (sqT_exb ha5 e6 h5)), sqT_exb ha7 e8 h7, g1, g2, g3⟩
        exact e8 _ _ hp (e7 _ _ (e6 _ _ hp (e5 _ _ (e4 _ _ hp (t3 _ _ ho)))))
  by_cases hn : h = .non
  · subst hn
    rw [decide_eq_true (rfl : V.non = V.non)]
    refine c_f ?_
    exact go H (Ex.refl H) rfl
  · rw [decide_eq_false hn]
    refine c_t ?_
    walk_at "rd"
    refine c_isname hh (fun H1 e1 => ?_)
    walk_at "rd"
    cases g : isNm h with
    | false =>
      refine c_t ?_
      walk_at "rd"
      exact bad1 H1 e1 (by rw [g, decide_eq_false hn]; rfl)
    | true =>
      refine c_f ?_
      exact go H1 e1 (by rw [g]; simp)

end
end K11

set_option maxHeartbeats 800000
namespace K11
open PySem PySem.Spec PyProof.Rows L2 Evl Gx
local macro_rules | `(tactic| walk_at "get") => `(tactic| first
  | assumption
  | exact upd_same
  | ((with_reducible refine sq_l ?_); walk_at "get")
  | ((with_reducible refine sq_t ?_); walk_at "get")
  | ((with_reducible refine ex_l (by assumption) ?_); walk_at "get")
  | ((with_reducible refine ex_t (by assumption) ?_); walk_at "get")
  | ((with_reducible refine Draw.ex (by assumption) ?_); walk_at "get")
  | ((with_reducible refine Arg.ex (by assumption) ?_); walk_at "get")
  | ((with_reducible refine IsRule.ex (by assumption) ?_); walk_at "get")
  | ((with_reducible refine Thing.ex (by assumption) ?_); walk_at "get")
  | ((with_reducible refine exget (by assumption) ?_); walk_at "get"))
local macro_rules | `(tactic| walk_at "rd1") => `(tactic| first
  | (with_reducible refine c_seq ?_)
  | (with_reducible refine c_next ?_)
  | (with_reducible refine c_drop ?_)
  | (with_reducible refine c_ret ?_)
  | (with_reducible refine c_retN ?_)
  | (with_reducible refine c_ifs ?_)
  | (with_reducible refine c_c ?_)
  | (with_reducible refine c_op ?_)
  | (with_reducible refine c_un ?_)
  | (with_reducible refine c_cb ?_)
  | (with_reducible refine c_nil ?_)
  | (with_reducible refine c_cons ?_)
  | (with_reducible refine c_call ?_)
  | (with_reducible refine c_callK ?_)
  | (with_reducible refine c_test ?_)
  | (with_reducible refine c_tB ?_)
  | (with_reducible refine c_and ?_)
  | (with_reducible refine c_or ?_)
  | (with_reducible refine c_not ?_)
  | (with_reducible refine c_andV ?_)
  | (with_reducible refine c_orV ?_)
  | (with_reducible refine c_notV ?_)
  | (with_reducible refine c_if ?_)
  | (with_reducible refine c_chain ?_)
  | (with_reducible refine c_sl ?_)
  | (with_reducible refine c_nop ?_)
  | (with_reducible refine c_part ?_)
  | (with_reducible refine c_lst ?_)
  | (with_reducible refine c_tup ?_)
  | (with_reducible refine c_bl ?_)
  | (with_reducible refine c_blP ?_)
  | (with_reducible refine c_parti ?_)
  | (with_reducible refine c_t ?_)
  | (with_reducible refine c_f ?_)
  | (with_reducible refine g_add_i ?_)
  | (with_reducible refine g_sub_i ?_)
  | (with_reducible refine g_neg ?_)
  | (with_reducible refine g_eq_i ?_)
  | (with_reducible refine g_eq_st ?_)
  | (with_reducible refine g_eq_b ?_)
  | (with_reducible refine g_ne_i ?_)
  | (with_reducible refine g_ne_st ?_)
  | (with_reducible refine g_ne_b ?_)
  | (with_reducible refine g_lt_i ?_)
  | (with_reducible refine g_le_i ?_)
  | (with_reducible refine g_gt_i ?_)
  | (with_reducible refine g_ge_i ?_)
  | (with_reducible refine g_le_s ?_)
  | (with_reducible refine g_in_s ?_)
  | (with_reducible refine g_ni_s ?_)
  | (with_reducible refine c_brk ?_)
  | (with_reducible refine c_cont ?_)
  | (with_reducible refine c_for ?_)
  | (with_reducible refine c_lcW ?_)
  | (with_reducible refine c_iList ?_)
  | (with_reducible refine c_iTup ?_)
  | (with_reducible refine c_iStr ?_)
  | (with_reducible refine c_iRng1 ?_)
  | (with_reducible refine c_iS ?_)
  | (with_reducible refine c_yes ?_)
  | (with_reducible refine c_sub ?_)
  | (with_reducible refine c_pair ?_)
  | (with_reducible refine c_pnil ?_)
  | (with_reducible refine c_isn ?_)
  | (with_reducible refine c_notn ?_)
  | (with_reducible refine c_sfld ?_)
  | (with_reducible refine c_fld ?_)
  | (with_reducible refine c_raise ?_)
  | (with_reducible refine c_meth0 ?_)
  | (with_reducible refine c_iEnum ?_)
  | (with_reducible refine c_bm ?_)
  | (with_reducible refine c_bm0 ?_)
  | (with_reducible refine c_mk ?_)
  | (with_reducible refine c_try ?_)
  | (with_reducible refine c_iEnumT ?_)
  | (with_reducible refine c_callKS ?_)
  | (with_reducible refine c_tryO ?_)
  | (with_reducible refine c_repl ?_)
  | (with_reducible refine c_fmt ?_)
  | (with_reducible refine c_fs ?_)
  | (with_reducible refine c_jn ?_)
  | (with_reducible refine c_jc ?_)
  | (with_reducible refine c_tru ?_)
  | (with_reducible refine c_m1 ?_)
  | (with_reducible refine c_dget ?_)
  | (with_reducible refine c_din ?_)
  | (with_reducible refine c_dni ?_)
  | (with_reducible refine c_dput ?_)
  | (with_reducible refine c_star ?_)
  | (with_reducible refine c_while ?_)
  | (with_reducible refine c_dcW ?_)
  | (with_reducible refine c_var0 ?_)
  | (with_reducible refine c_asg0 ?_)
  | (with_reducible refine c_nam0 ?_)
  | (with_reducible refine c_var1 ?_)
  | (with_reducible refine c_asg1 ?_)
  | (with_reducible refine c_nam1 ?_)
  | (with_reducible refine c_var2 ?_)
  | (with_reducible refine c_asg2 ?_)
  | (with_reducible refine c_nam2 ?_)
  | (with_reducible refine c_var3 ?_)
  | (with_reducible refine c_asg3 ?_)
  | (with_reducible refine c_nam3 ?_)
  | (with_reducible refine c_var4 ?_)
  | (with_reducible refine c_asg4 ?_)
  | (with_reducible refine c_nam4 ?_)
  | (with_reducible refine c_var5 ?_)
  | (with_reducible refine c_asg5 ?_)
  | (with_reducible refine c_nam5 ?_)
  | (with_reducible refine c_var6 ?_)
  | (with_reducible refine c_asg6 ?_)
  | (with_reducible refine c_nam6 ?_)
  | (with_reducible refine c_var7 ?_)
  | (with_reducible refine c_asg7 ?_)
  | (with_reducible refine c_nam7 ?_)
  | (with_reducible refine c_var8 ?_)
  | (with_reducible refine c_asg8 ?_)
  | (with_reducible refine c_nam8 ?_)
  | (with_reducible refine c_var9 ?_)
  | (with_reducible refine c_asg9 ?_)
  | (with_reducible refine c_nam9 ?_)
  | (with_reducible refine c_var10 ?_)
  | (with_reducible refine c_asg10 ?_)
  | (with_reducible refine c_nam10 ?_)
  | (with_reducible refine c_var11 ?_)
  | (with_reducible refine c_asg11 ?_)
  | (with_reducible refine c_nam11 ?_)
  | (with_reducible refine c_var12 ?_)
  | (with_reducible refine c_asg12 ?_)
  | (with_reducible refine c_nam12 ?_)
  | (with_reducible refine c_var13 ?_)
  | (with_reducible refine c_asg13 ?_)
  | (with_reducible refine c_nam13 ?_)
  | (with_reducible refine c_var14 ?_)
  | (with_reducible refine c_asg14 ?_)
  | (with_reducible refine c_nam14 ?_)
  | (with_reducible refine c_var15 ?_)
  | (with_reducible refine c_asg15 ?_)
  | (with_reducible refine c_nam15 ?_)
  | (with_reducible refine c_asgG ?_)
  | ((with_reducible refine g_ix_l (xs := ?gxa) (v := ?gxb) ?gx1 ?gx2 ?gx3); (case gx1 => walk_at "get"); (case gx2 => rfl))
  | ((with_reducible refine g_len_l (xs := ?gxa) (.inl ?gx1) ?gx3); (case gx1 => walk_at "get"))
  | ((with_reducible refine g_mod_i ?gx1 ?gx3); (case gx1 => omega)))
local macro_rules | `(tactic| walk_at "rd") => `(tactic| repeat walk_at "rd1")
local macro_rules | `(tactic| walk_at "rs1") => `(tactic| first
  | (with_reducible refine c_next ?_)
  | (with_reducible refine c_drop ?_)
  | (with_reducible refine c_ret ?_)
  | (with_reducible refine c_retN ?_)
  | (with_reducible refine c_ifs ?_)
  | (with_reducible refine c_c ?_)
  | (with_reducible refine c_op ?_)
  | (with_reducible refine c_un ?_)
  | (with_reducible refine c_cb ?_)
  | (with_reducible refine c_nil ?_)
  | (with_reducible refine c_cons ?_)
  | (with_reducible refine c_call ?_)
  | (with_reducible refine c_callK ?_)
  | (with_reducible refine c_test ?_)
  | (with_reducible refine c_tB ?_)
  | (with_reducible refine c_and ?_)
  | (with_reducible refine c_or ?_)
  | (with_reducible refine c_not ?_)
  | (with_reducible refine c_andV ?_)
  | (with_reducible refine c_orV ?_)
  | (with_reducible refine c_notV ?_)
  | (with_reducible refine c_chain ?_)
  | (with_reducible refine c_sl ?_)
  | (with_reducible refine c_nop ?_)
  | (with_reducible refine c_part ?_)
  | (with_reducible refine c_lst ?_)
  | (with_reducible refine c_tup ?_)
  | (with_reducible refine c_bl ?_)
  | (with_reducible refine c_blP ?_)
  | (with_reducible refine c_parti ?_)
  | (with_reducible refine c_t ?_)
  | (with_reducible refine c_f ?_)
  | (with_reducible refine g_add_i ?_)
  | (with_reducible refine g_sub_i ?_)
  | (with_reducible refine g_neg ?_)
  | (with_reducible refine g_eq_i ?_)
  | (with_reducible refine g_eq_st ?_)
  | (with_reducible refine g_eq_b ?_)
  | (with_reducible refine g_ne_i ?_)
  | (with_reducible refine g_ne_st ?_)
  | (with_reducible refine g_ne_b ?_)
  | (with_reducible refine g_lt_i ?_)
  | (with_reducible refine g_le_i ?_)
  | (with_reducible refine g_gt_i ?_)
  | (with_reducible refine g_ge_i ?_)
  | (with_reducible refine g_le_s ?_)
  | (with_reducible refine g_in_s ?_)
  | (with_reducible refine g_ni_s ?_)
  | (with_reducible refine c_brk ?_)
  | (with_reducible refine c_cont ?_)
  | (with_reducible refine c_for ?_)
  | (with_reducible refine c_lcW ?_)
  | (with_reducible refine c_iList ?_)
  | (with_reducible refine c_iTup ?_)
  | (with_reducible refine c_iStr ?_)
  | (with_reducible refine c_iRng1 ?_)
  | (with_reducible refine c_iS ?_)
  | (with_reducible refine c_yes ?_)
  | (with_reducible refine c_sub ?_)
  | (with_reducible refine c_pair ?_)
  | (with_reducible refine c_pnil ?_)
  | (with_reducible refine c_isn ?_)
  | (with_reducible refine c_notn ?_)
  | (with_reducible refine c_sfld ?_)
  | (with_reducible refine c_fld ?_)
  | (with_reducible refine c_raise ?_)
  | (with_reducible refine c_meth0 ?_)
  | (with_reducible refine c_iEnum ?_)
  | (with_reducible refine c_bm ?_)
  | (with_reducible refine c_bm0 ?_)
  | (with_reducible refine c_mk ?_)
  | (with_reducible refine c_try ?_)
  | (with_reducible refine c_iEnumT ?_)
  | (with_reducible refine c_callKS ?_)
  | (with_reducible refine c_tryO ?_)
  | (with_reducible refine c_repl ?_)
  | (with_reducible refine c_fmt ?_)
  | (with_reducible refine c_fs ?_)
  | (with_reducible refine c_jn ?_)
  | (with_reducible refine c_jc ?_)
  | (with_reducible refine c_tru ?_)
  | (with_reducible refine c_m1 ?_)
  | (with_reducible refine c_dget ?_)
  | (with_reducible refine c_din ?_)
  | (with_reducible refine c_dni ?_)
  | (with_reducible refine c_dput ?_)
  | (with_reducible refine c_star ?_)
  | (with_reducible refine c_while ?_)
  | (with_reducible refine c_dcW ?_)
  | (with_reducible refine c_var0 ?_)
  | (with_reducible refine c_asg0 ?_)
  | (with_reducible refine c_nam0 ?_)
  | (with_reducible refine c_var1 ?_)
  | (with_reducible refine c_asg1 ?_)
  | (with_reducible refine c_nam1 ?_)
  | (with_reducible refine c_var2 ?_)
  | (with_reducible refine c_asg2 ?_)
  | (with_reducible refine c_nam2 ?_)
  | (with_reducible refine c_var3 ?_)
  | (with_reducible refine c_asg3 ?_)
  | (with_reducible refine c_nam3 ?_)
  | (with_reducible refine c_var4 ?_)
  | (with_reducible refine c_asg4 ?_)
  | (with_reducible refine c_nam4 ?_)
  | (with_reducible refine c_var5 ?_)
  | (with_reducible refine c_asg5 ?_)
  | (with_reducible refine c_nam5 ?_)
  | (with_reducible refine c_var6 ?_)
  | (with_reducible refine c_asg6 ?_)
  | (with_reducible refine c_nam6 ?_)
  | (with_reducible refine c_var7 ?_)
  | (with_reducible refine c_asg7 ?_)
  | (with_reducible refine c_nam7 ?_)
  | (with_reducible refine c_var8 ?_)
  | (with_reducible refine c_asg8 ?_)
  | (with_reducible refine c_nam8 ?_)
  | (with_reducible refine c_var9 ?_)
  | (with_reducible refine c_asg9 ?_)
  | (with_reducible refine c_nam9 ?_)
  | (with_reducible refine c_var10 ?_)
  | (with_reducible refine c_asg10 ?_)
  | (with_reducible refine c_nam10 ?_)
  | (with_reducible refine c_var11 ?_)
  | (with_reducible refine c_asg11 ?_)
  | (with_reducible refine c_nam11 ?_)
  | (with_reducible refine c_var12 ?_)
  | (with_reducible refine c_asg12 ?_)
  | (with_reducible refine c_nam12 ?_)
  | (with_reducible refine c_var13 ?_)
  | (with_reducible refine c_asg13 ?_)
  | (with_reducible refine c_nam13 ?_)
  | (with_reducible refine c_var14 ?_)
  | (with_reducible refine c_asg14 ?_)
  | (with_reducible refine c_nam14 ?_)
  | (with_reducible refine c_var15 ?_)
  | (with_reducible refine c_asg15 ?_)
  | (with_reducible refine c_nam15 ?_)
  | (with_reducible refine c_asgG ?_)
  | ((with_reducible refine g_ix_l (xs := ?gxa) (v := ?gxb) ?gx1 ?gx2 ?gx3); (case gx1 => walk_at "get"); (case gx2 => rfl))
  | ((with_reducible refine g_len_l (xs := ?gxa) (.inl ?gx1) ?gx3); (case gx1 => walk_at "get"))
  | ((with_reducible refine g_mod_i ?gx1 ?gx3); (case gx1 => omega)))
local macro_rules | `(tactic| walk_at "rs") => `(tactic| repeat walk_at "rs1")
section
variable {P : Program} {w : World} {K : PySem.W.Frag} {mg : Str → Option Value} {base : Heap} {Z : Ads}
theorem RsAt.ex {H H' : Hp} (e : Ex H H') : ∀ {as : List Addr} {rs : List PR}, RsAt K Z H as rs → RsAt K Z H' as rs
  | [], [], _ => trivial
  | _ :: _, _ :: _, h => ⟨h.1.ex e, RsAt.ex e h.2⟩
  | [], _ :: _, h => h.elim
  | _ :: _, [], h => h.elim
theorem RsAt.len {H : Hp} : ∀ {as : List Addr} {rs : List PR}, RsAt K Z H as rs → as.length = rs.length
  | [], [], _ => rfl
  | _ :: _, _ :: _, h => by rw [List.length_cons, List.length_cons, RsAt.len h.2]
  | [], _ :: _, h => h.elim
  | _ :: _, [], h => h.elim
theorem RsAt.get {H : Hp} : ∀ {as : List Addr} {rs : List PR} {i : Nat} {a : Addr}, RsAt K Z H as rs → as[i]? = some a → ∃ r, rs[i]? = some r ∧ IsRule K Z H a r.1 (r.2.map V.str) []
  | a :: _, r :: _, 0, b, h, e => by cases e; exact ⟨r, rfl, h.1⟩
  | _ :: as, _ :: rs, i + 1, b, h, e => RsAt.get (as := as) (rs := rs) h.2 e
  | [], _, _, _, _, e => by simp at e
  | _ :: _, [], _, _, h, _ => h.elim
theorem names_of' {bs : List Str} {m : Nat} (h : nmsO (some (bs.map V.str)) m = true) : Names bs ∧ bs.length ≤ m ∧ bs.Nodup := by
  rw [nmsO_some, Bool.and_eq_true, Bool.and_eq_true, decide_eq_true_iff, decide_eq_true_iff, List.length_map] at h
  refine ⟨fun z hz => ?_, h.1, nodup_strs.mp h.2.2⟩
  have := List.all_eq_true.mp h.2.1 (.str z) (List.mem_map.mpr ⟨z, hz, rfl⟩)
  simpa [isNm] using this
/-- what the Rule at a bears -/
theorem rule_facts {H : Hp} {a : Addr} {r : PR} (h : IsRule K Z H a r.1 (r.2.map V.str) []) : ∃ dx pb pu, H a = some (.ins Z.Rule dx [("head", r.1), ("body", .ref pb), ("unless", .ref pu)]) ∧ SqT K H pb (r.2.map V.str) ∧ SqT K H pu [] ∧ (r.1 = .non ∨ ∃ z, r.1 = .str z ∧ nameS z = true) ∧ Names r.2 ∧ r.2.length ≤ 6 := by
  obtain ⟨dx, pb, pu, h1, h2, h3, h4, h5, _⟩ := h
  obtain ⟨n1, n2, _⟩ := names_of' h5
  exact ⟨dx, pb, pu, h1, h2, h3, nm_cases h4, n1, n2⟩
theorem rd_has_all {vs : List V} {H : Hp} {Q : VK} {E : XK} (h : sp_has_all K vs H Q E) : t_has_all K Z { nx := fun _ H' => Q .non H', rt := Q } (start ["there", "names", "name"] vs) H := by
  obtain ⟨d, q0, F, ss, rfl, hd, hq, hl, q⟩ := h
  show t_has_all K Z _ [some (.ref d), some (.ref q0), none] H
  unfold t_has_all
  walk_at "rd"
  refine lc_seq (fun R h => by walk_at "rd"; exact h) hq (fun i acc => acc = ((ss.take i).map fun x => decide (x ∈ keysF F)).map V.bl) (σ0 := [some (.ref d), some (.ref q0), none]) rfl (by rw [List.length_map]; omega) rfl ?_ ?_
  · intro i acc x H2 Q1 Q0 hi hacc e2 hx k1 k0
    rw [List.getElem?_map] at hx
    obtain ⟨z, hz, rfl⟩ := Option.map_eq_some_iff.mp hx
    walk_at "rd"
    refine ⟨rfl, ?_⟩
    walk_at "rd"
    refine g_din (e2 _ _ hd) ?_
    rw [valV_dkv, look_some]
    exact k1 _ _ (Ex.refl _) (by rw [hacc, take_snoc hz, List.map_append, List.map_append]; rfl)
  · intro D H' ys nD e2 hys _ hD
    rw [List.length_map, List.take_of_length_le (Nat.le_refl _)] at hys
    subst hys
    walk_at "rd"
    refine g_all (sq_l hD) ?_
    rw [all_mapid]
    exact q H' e2
theorem next_snoc (rs : List PR) (r : PR) (ks : List Str) : nextS (rs ++ [r]) ks = nextS rs ks ++ (headsOf r.1).filter fun z => decide (z ∉ ks) && r.2.all fun x => decide (x ∈ ks) := by
  unfold nextS; rw [List.flatMap_append]; simp
theorem next_len (rs : List PR) (ks : List Str) : (nextS rs ks).length ≤ rs.length := by
  induction rs with
  | nil => simp [nextS]
  | cons r rs ih =>
    have e : nextS (r :: rs) ks = ((headsOf r.1).filter fun z => decide (z ∉ ks) && r.2.all fun x => decide (x ∈ ks)) ++ nextS rs ks := by unfold nextS; rw [List.flatMap_cons]
    rw [e, List.length_append, List.length_cons]
    have h1 : ((headsOf r.1).filter fun z => decide (z ∉ ks) && r.2.all fun x => decide (x ∈ ks)).length ≤ 1 := by
      refine Nat.le_trans (List.length_filter_le _ _) ?_
      cases r.1 <;> simp [headsOf]
    omega
theorem rd_next_heads {vs : List V} {H : Hp} {Q : VK} {E : XK} (R : RuleC K Z.Rule) (h : sp_next_heads K Z vs H Q E) : t_next_heads K Z { nx := fun _ H' => Q .non H', rt := Q } (start ["rules", "there", "rule"] vs) H := by
  obtain ⟨b, d, as, rs, F, rfl, hb, hR, hl, hd, q⟩ := h
  show t_next_heads K Z _ [some (.ref b), some (.ref d), none] H
  unfold t_next_heads
  walk_at "rd"
  refine c_iL (sq_l hb) ?_
  have hlen := RsAt.len hR
  refine c_lc walk_list (fun i acc => acc = (nextS (rs.take i) (keysF F)).map V.str) (σ0 := [some (.ref b), some (.ref d), none]) rfl (by rw [List.length_map]; omega) rfl (fun H' e' => sq_l (e' _ _ hb)) ?_ ?_
  · intro i acc x H2 H3 Q1 Q0 hi hacc e2 hy k1 k0
    obtain ⟨rfl, hx⟩ := hy
    rw [List.getElem?_map] at hx
    obtain ⟨a, ha, rfl⟩ := Option.map_eq_some_iff.mp hx
    obtain ⟨r, hr, hI⟩ := RsAt.get (RsAt.ex e2 hR) ha
    obtain ⟨dx, pb, pu, h1, h2, h3, h4, h5, h6⟩ := rule_facts hI
    have no : (headsOf r.1).filter (fun z => decide (z ∉ keysF F) && r.2.all fun x => decide (x ∈ keysF F)) = [] → ∀ H5, Ex H3 H5 → Q0 H5 := fun k H5 e5 => k0 H5 e5 (by rw [hacc, take_snoc hr, next_snoc, k, List.append_nil])
    walk_at "rd"
    refine ⟨rfl, ?_⟩
    walk_at "rd"
    refine g_fld h1 R.cls R.nh rfl ?_
    walk_at "rd"
    rcases h4 with hn | ⟨z, hz, nz⟩
    · rw [hn]
      refine c_nd (fun k => absurd rfl k) (fun _ => ?_)
      walk_at "rd"
      exact no (by rw [hn]; rfl) _ (Ex.refl _)
    · rw [hz]
      refine c_nd (fun _ => ?_) (fun k => by cases k)
      walk_at "rd"
      refine g_fld h1 R.cls R.nh rfl ?_
      rw [hz]
      walk_at "rd"
      refine g_dni (e2 _ _ hd) ?_
      rw [valV_dkv, look_some]
      walk_at "rd"
      refine c_nd (fun k => ?_) (fun k => ?_)
      · walk_at "rd"
        refine g_fld h1 R.cls R.nb rfl ?_
        walk_at "rd"
        refine ⟨d, pb, F, r.2, rfl, e2 _ _ hd, .inr h2, by omega, fun H5 e5 => ?_⟩
        walk_at "rd"
        cases hall : r.2.all fun x => decide (x ∈ keysF F) with
        | true =>
          refine c_t ?_
          walk_at "rd"
          refine g_fld (e5 _ _ h1) R.cls R.nh rfl ?_
          rw [hz]
          refine k1 _ _ e5 ?_
          have e1 : (headsOf r.1).filter (fun z => decide (z ∉ keysF F) && r.2.all fun x => decide (x ∈ keysF F)) = [z] := by
            rw [hz, hall]; show [z].filter _ = _; rw [List.filter_cons_of_pos (by simp [k])]; rfl
          rw [hacc, take_snoc hr, next_snoc, e1, List.map_append]; rfl
        | false =>
          refine c_f ?_
          refine no ?_ _ e5
          rw [hz, hall]; show [z].filter _ = _; rw [List.filter_cons_of_neg (by simp)]; rfl
      · walk_at "rd"
        refine no ?_ _ (Ex.refl _)
        rw [hz]; show [z].filter _ = _; rw [List.filter_cons_of_neg (by simp [k])]; rfl
  · intro D H' ys nD e2 hys _ hD
    rw [List.length_map, hlen, List.take_of_length_le (Nat.le_refl _)] at hys
    subst hys
    exact q D H' nD e2 hD

end
end K11

set_option maxHeartbeats 800000
namespace K11
open PySem PySem.Spec PyProof.Rows L2 Evl Gx
local macro_rules | `(tactic| walk_at "get") => `(tactic| first
  | assumption
  | exact upd_same
  | ((with_reducible refine sq_l ?_); walk_at "get")
  | ((with_reducible refine sq_t ?_); walk_at "get")
  | ((with_reducible refine ex_l (by assumption) ?_); walk_at "get")
  | ((with_reducible refine ex_t (by assumption) ?_); walk_at "get")
  | ((with_reducible refine Draw.ex (by assumption) ?_); walk_at "get")
  | ((with_reducible refine Arg.ex (by assumption) ?_); walk_at "get")
  | ((with_reducible refine IsRule.ex (by assumption) ?_); walk_at "get")
  | ((with_reducible refine Thing.ex (by assumption) ?_); walk_at "get")
  | ((with_reducible refine exget (by assumption) ?_); walk_at "get"))
local macro_rules | `(tactic| walk_at "rd1") => `(tactic| first
  | (with_reducible refine c_seq ?_)
  | (with_reducible refine c_next ?_)
  | (with_reducible refine c_drop ?_)
  | (with_reducible refine c_ret ?_)
  | (with_reducible refine c_retN ?_)
  | (with_reducible refine c_ifs ?_)
  | (with_reducible refine c_c ?_)
  | (with_reducible refine c_op ?_)
  | (with_reducible refine c_un ?_)
  | (with_reducible refine c_cb ?_)
  | (with_reducible refine c_nil ?_)
  | (with_reducible refine c_cons ?_)
  | (with_reducible refine c_call ?_)
  | (with_reducible refine c_callK ?_)
  | (with_reducible refine c_test ?_)
  | (with_reducible refine c_tB ?_)
  | (with_reducible refine c_and ?_)
  | (with_reducible refine c_or ?_)
  | (with_reducible refine c_not ?_)
  | (with_reducible refine c_andV ?_)
  | (with_reducible refine c_orV ?_)
  | (with_reducible refine c_notV ?_)
  | (with_reducible refine c_if ?_)
  | (with_reducible refine c_chain ?_)
  | (with_reducible refine c_sl ?_)
  | (with_reducible refine c_nop ?_)
  | (with_reducible refine c_part ?_)
  | (with_reducible refine c_lst ?_)
  | (with_reducible refine c_tup ?_)
  | (with_reducible refine c_bl ?_)
  | (with_reducible refine c_blP ?_)
  | (with_reducible refine c_parti ?_)
  | (with_reducible refine c_t ?_)
  | (with_reducible refine c_f ?_)
  | (with_reducible refine g_add_i ?_)
  | (with_reducible refine g_sub_i ?_)
  | (with_reducible refine g_neg ?_)
  | (with_reducible refine g_eq_i ?_)
  | (with_reducible refine g_eq_st ?_)
  | (with_reducible refine g_eq_b ?_)
  | (with_reducible refine g_ne_i ?_)
  | (with_reducible refine g_ne_st ?_)
  | (with_reducible refine g_ne_b ?_)
  | (with_reducible refine g_lt_i ?_)
  | (with_reducible refine g_le_i ?_)
  | (with_reducible refine g_gt_i ?_)
  | (with_reducible refine g_ge_i ?_)
  | (with_reducible refine g_le_s ?_)
  | (with_reducible refine g_in_s ?_)
  | (with_reducible refine g_ni_s ?_)
  | (with_reducible refine c_brk ?_)
  | (with_reducible refine c_cont ?_)
  | (with_reducible refine c_for ?_)
  | (with_reducible refine c_lcW ?_)
  | (with_reducible refine c_iList ?_)
  | (with_reducible refine c_iTup ?_)
  | (with_reducible refine c_iStr ?_)
  | (with_reducible refine c_iRng1 ?_)
  | (with_reducible refine c_iS ?_)
  | (with_reducible refine c_yes ?_)
  | (with_reducible refine c_sub ?_)
  | (with_reducible refine c_pair ?_)
  | (with_reducible refine c_pnil ?_)
  | (with_reducible refine c_isn ?_)
  | (with_reducible refine c_notn ?_)
  | (with_reducible refine c_sfld ?_)
  | (with_reducible refine c_fld ?_)
  | (with_reducible refine c_raise ?_)
  | (with_reducible refine c_meth0 ?_)
  | (with_reducible refine c_iEnum ?_)
  | (with_reducible refine c_bm ?_)
  | (with_reducible refine c_bm0 ?_)
  | (with_reducible refine c_mk ?_)
  | (with_reducible refine c_try ?_)
  | (with_reducible refine c_iEnumT ?_)
  | (with_reducible refine c_callKS ?_)
  | (with_reducible refine c_tryO ?_)
  | (with_reducible refine c_repl ?_)
  | (with_reducible refine c_fmt ?_)
  | (with_reducible refine c_fs ?_)
  | (with_reducible refine c_jn ?_)
  | (with_reducible refine c_jc ?_)
  | (with_reducible refine c_tru ?_)
  | (with_reducible refine c_m1 ?_)
  | (with_reducible refine c_dget ?_)
  | (with_reducible refine c_din ?_)
  | (with_reducible refine c_dni ?_)
  | (with_reducible refine c_dput ?_)
  | (with_reducible refine c_star ?_)
  | (with_reducible refine c_while ?_)
  | (with_reducible refine c_dcW ?_)
  | (with_reducible refine c_var0 ?_)
  | (with_reducible refine c_asg0 ?_)
  | (with_reducible refine c_nam0 ?_)
  | (with_reducible refine c_var1 ?_)
  | (with_reducible refine c_asg1 ?_)
  | (with_reducible refine c_nam1 ?_)
  | (with_reducible refine c_var2 ?_)
  | (with_reducible refine c_asg2 ?_)
  | (with_reducible refine c_nam2 ?_)
  | (with_reducible refine c_var3 ?_)
  | (with_reducible refine c_asg3 ?_)
  | (with_reducible refine c_nam3 ?_)
  | (with_reducible refine c_var4 ?_)
  | (with_reducible refine c_asg4 ?_)
  | (with_reducible refine c_nam4 ?_)
  | (with_reducible refine c_var5 ?_)
  | (with_reducible refine c_asg5 ?_)
  | (with_reducible refine c_nam5 ?_)
  | (with_reducible refine c_var6 ?_)
  | (with_reducible refine c_asg6 ?_)
  | (with_reducible refine c_nam6 ?_)
  | (with_reducible refine c_var7 ?_)
  | (with_reducible refine c_asg7 ?_)
  | (with_reducible refine c_nam7 ?_)
  | (with_reducible refine c_var8 ?_)
  | (with_reducible refine c_asg8 ?_)
  | (with_reducible refine c_nam8 ?_)
  | (with_reducible refine c_var9 ?_)
  | (with_reducible refine c_asg9 ?_)
  | (with_reducible refine c_nam9 ?_)
  | (with_reducible refine c_var10 ?_)
  | (with_reducible refine c_asg10 ?_)
  | (with_reducible refine c_nam10 ?_)
  | (with_reducible refine c_var11 ?_)
  | (with_reducible refine c_asg11 ?_)
  | (with_reducible refine c_nam11 ?_)
  | (with_reducible refine c_var12 ?_)
  | (with_reducible refine c_asg12 ?_)
  | (with_reducible refine c_nam12 ?_)
  | (with_reducible refine c_var13 ?_)
  | (with_reducible refine c_asg13 ?_)
  | (with_reducible refine c_nam13 ?_)
  | (with_reducible refine c_var14 ?_)
  | (with_reducible refine c_asg14 ?_)
  | (with_reducible refine c_nam14 ?_)
  | (with_reducible refine c_var15 ?_)
  | (with_reducible refine c_asg15 ?_)
  | (with_reducible refine c_nam15 ?_)
  | (with_reducible refine c_asgG ?_)
  | ((with_reducible refine g_ix_l (xs := ?gxa) (v := ?gxb) ?gx1 ?gx2 ?gx3); (case gx1 => walk_at "get"); (case gx2 => rfl))
  | ((with_reducible refine g_len_l (xs := ?gxa) (.inl ?gx1) ?gx3); (case gx1 => walk_at "get"))
  | ((with_reducible refine g_mod_i ?gx1 ?gx3); (case gx1 => omega)))
local macro_rules | `(tactic| walk_at "rd") => `(tactic| repeat walk_at "rd1")
local macro_rules | `(tactic| walk_at "rs1") => `(tactic| first
  | (with_reducible refine c_next ?_)
  | (with_reducible refine c_drop ?_)
  | (with_reducible refine c_ret ?_)
  | (with_reducible refine c_retN ?_)
  | (with_reducible refine c_ifs ?_)
  | (with_reducible refine c_c ?_)
  | (with_reducible refine c_op ?_)
  | (with_reducible refine c_un ?_)
  | (with_reducible refine c_cb ?_)
  | (with_reducible refine c_nil ?_)
  | (with_reducible refine c_cons ?_)
  | (with_reducible refine c_call ?_)
  | (with_reducible refine c_callK ?_)
  | (with_reducible refine c_test ?_)
  | (with_reducible refine c_tB ?_)
  | (with_reducible refine c_and ?_)
  | (with_reducible refine c_or ?_)
  | (with_reducible refine c_not ?_)
  | (with_reducible refine c_andV ?_)
  | (with_reducible refine c_orV ?_)
  | (with_reducible refine c_notV ?_)
  | (with_reducible refine c_chain ?_)
  | (with_reducible refine c_sl ?_)
  | (with_reducible refine c_nop ?_)
  | (with_reducible refine c_part ?_)
  | (with_reducible refine c_lst ?_)
  | (with_reducible refine c_tup ?_)
  | (with_reducible refine c_bl ?_)
  | (with_reducible refine c_blP ?_)
  | (with_reducible refine c_parti ?_)
  | (with_reducible refine c_t ?_)
  | (with_reducible refine c_f ?_)
  | (with_reducible refine g_add_i ?_)
  | (with_reducible refine g_sub_i ?_)
  | (with_reducible refine g_neg ?_)
  | (with_reducible refine g_eq_i ?_)
  | (with_reducible refine g_eq_st ?_)
  | (with_reducible refine g_eq_b ?_)
  | (with_reducible refine g_ne_i ?_)
  | (with_reducible refine g_ne_st ?_)
  | (with_reducible refine g_ne_b ?_)
  | (with_reducible refine g_lt_i ?_)
  | (with_reducible refine g_le_i ?_)
  | (with_reducible refine g_gt_i ?_)
  | (with_reducible refine g_ge_i ?_)
  | (with_reducible refine g_le_s ?_)
  | (with_reducible refine g_in_s ?_)
  | (with_reducible refine g_ni_s ?_)
  | (with_reducible refine c_brk ?_)
  | (with_reducible refine c_cont ?_)
  | (with_reducible refine c_for ?_)
  | (with_reducible refine c_lcW ?_)
  | (with_reducible refine c_iList ?_)
  | (with_reducible refine c_iTup ?_)
  | (with_reducible refine c_iStr ?_)
  | (with_reducible refine c_iRng1 ?_)
  | (with_reducible refine c_iS ?_)
  | (with_reducible refine c_yes ?_)
  | (with_reducible refine c_sub ?_)
  | (with_reducible refine c_pair ?_)
  | (with_reducible refine c_pnil ?_)
  | (with_reducible refine c_isn ?_)
  | (with_reducible refine c_notn ?_)
  | (with_reducible refine c_sfld ?_)
  | (with_reducible refine c_fld ?_)
  | (with_reducible refine c_raise ?_)
  | (with_reducible refine c_meth0 ?_)
  | (with_reducible refine c_iEnum ?_)
  | (with_reducible refine c_bm ?_)
  | (with_reducible refine c_bm0 ?_)
  | (with_reducible refine c_mk ?_)
  | (with_reducible refine c_try ?_)
  | (with_reducible refine c_iEnumT ?_)
  | (with_reducible refine c_callKS ?_)
  | (with_reducible refine c_tryO ?_)
  | (with_reducible refine c_repl ?_)
  | (with_reducible refine c_fmt ?_)
  | (with_reducible refine c_fs ?_)
  | (with_reducible refine c_jn ?_)
  | (with_reducible refine c_jc ?_)
  | (with_reducible refine c_tru ?_)
  | (with_reducible refine c_m1 ?_)
  | (with_reducible refine c_dget ?_)
  | (with_reducible refine c_din ?_)
  | (with_reducible refine c_dni ?_)
  | (with_reducible refine c_dput ?_)
  | (with_reducible refine c_star ?_)
  | (with_reducible refine c_while ?_)
  | (with_reducible refine c_dcW ?_)
  | (with_reducible refine c_var0 ?_)
  | (with_reducible refine c_asg0 ?_)
  | (with_reducible refine c_nam0 ?_)
  | (with_reducible refine c_var1 ?_)
  | (with_reducible refine c_asg1 ?_)
  | (with_reducible refine c_nam1 ?_)
  | (with_reducible refine c_var2 ?_)
  | (with_reducible refine c_asg2 ?_)
  | (with_reducible refine c_nam2 ?_)
  | (with_reducible refine c_var3 ?_)
  | (with_reducible refine c_asg3 ?_)
  | (with_reducible refine c_nam3 ?_)
  | (with_reducible refine c_var4 ?_)
  | (with_reducible refine c_asg4 ?_)
  | (with_reducible refine c_nam4 ?_)
  | (with_reducible refine c_var5 ?_)
  | (with_reducible refine c_asg5 ?_)
  | (with_reducible refine c_nam5 ?_)
  | (with_reducible refine c_var6 ?_)
  | (with_reducible refine c_asg6 ?_)
  | (with_reducible refine c_nam6 ?_)
  | (with_reducible refine c_var7 ?_)
  | (with_reducible refine c_asg7 ?_)
  | (with_reducible refine c_nam7 ?_)
  | (with_reducible refine c_var8 ?_)
  | (with_reducible refine c_asg8 ?_)
  | (with_reducible refine c_nam8 ?_)
  | (with_reducible refine c_var9 ?_)
  | (with_reducible refine c_asg9 ?_)
  | (with_reducible refine c_nam9 ?_)
  | (with_reducible refine c_var10 ?_)
  | (with_reducible refine c_asg10 ?_)
  | (with_reducible refine c_nam10 ?_)
  | (with_reducible refine c_var11 ?_)
  | (with_reducible refine c_asg11 ?_)
  | (with_reducible refine c_nam11 ?_)
  | (with_reducible refine c_var12 ?_)
  | (with_reducible refine c_asg12 ?_)
  | (with_reducible refine c_nam12 ?_)
  | (with_reducible refine c_var13 ?_)
  | (with_reducible refine c_asg13 ?_)
  | (with_reducible refine c_nam13 ?_)
  | (with_reducible refine c_var14 ?_)
  | (with_reducible refine c_asg14 ?_)
  | (with_reducible refine c_nam14 ?_)
  | (with_reducible refine c_var15 ?_)
  | (with_reducible refine c_asg15 ?_)
  | (with_reducible refine c_nam15 ?_)
  | (with_reducible refine c_asgG ?_)
  | ((with_reducible refine g_ix_l (xs := ?gxa) (v := ?gxb) ?gx1 ?gx2 ?gx3); (case gx1 => walk_at "get"); (case gx2 => rfl))
  | ((with_reducible refine g_len_l (xs := ?gxa) (.inl ?gx1) ?gx3); (case gx1 => walk_at "get"))
  | ((with_reducible refine g_mod_i ?gx1 ?gx3); (case gx1 => omega)))
local macro_rules | `(tactic| walk_at "rs") => `(tactic| repeat walk_at "rs1")
section
variable {P : Program} {w : World} {K : PySem.W.Frag} {mg : Str → Option Value} {base : Heap} {Z : Ads}
theorem sqA_no {H H' : Hp} {d p : Addr} {xs : List V} {kvs : List (Key × V)} (e : Exb d H H') (hd : H d = some (.dK kvs)) (h : SqT K H p xs) : SqT K H' p xs := by
  have key : ∀ {o : HO}, H p = some o → (∀ kvs, o ≠ .dK kvs) → H' p = some o := fun {o} h1 h2 => e _ _ (fun k => by rw [k, hd] at h1; cases h1; exact h2 _ rfl) h1
  rcases h with (h | ⟨ob, h⟩) | h
  · exact .inl (.inl (key h fun _ z => by cases z))
  · exact .inl (.inr ⟨ob, key h fun _ z => by cases z⟩)
  · exact .inr h
theorem sqL_no {H H' : Hp} {d p : Addr} {xs : List V} {kvs : List (Key × V)} (e : Exb d H H') (hd : H d = some (.dK kvs)) (h : SqL K H p xs) : SqL K H' p xs := by
  have key : ∀ {o : HO}, H p = some o → (∀ kvs, o ≠ .dK kvs) → H' p = some o := fun {o} h1 h2 => e _ _ (fun k => by rw [k, hd] at h1; cases h1; exact h2 _ rfl) h1
  rcases h with (h | ⟨ob, h⟩) | h
  · exact .inl (.inl (key h fun _ z => by cases z))
  · exact .inl (.inr ⟨ob, key h fun _ z => by cases z⟩)
  · exact .inr h
theorem RsAt.exb {H H' : Hp} {d : Addr} {kvs : List (Key × V)} (e : Exb d H H') (hd : H d = some (.dK kvs)) : ∀ {as : List Addr} {rs : List PR}, RsAt K Z H as rs → RsAt K Z H' as rs
  | [], [], _ => trivial
  | _ :: _, _ :: _, ⟨⟨dx, pb, pu, h1, h2, h3, h4⟩, h⟩ => ⟨⟨dx, pb, pu, e _ _ (fun k => by rw [k, hd] at h1; cases h1) h1, sqA_no e hd h2, sqA_no e hd h3, h4⟩, RsAt.exb e hd h⟩
  | [], _ :: _, h => h.elim
  | _ :: _, [], h => h.elim
theorem lev_len {rs : List PR} {ss W : List Str} (hr : ∀ z ∈ namesOf rs, z ∈ W) (hs : ∀ z ∈ ss, z ∈ W) (nd : ss.Nodup) : InW W (levF rs ss) := InW.run hr _ _ _ (InW.init nd hs)
theorem rd_rounds {vs : List V} {H : Hp} {Q : VK} {E : XK} (h : sp_rounds K Z vs H Q E) : t_rounds K Z { nx := fun _ H' => Q .non H', rt := Q } (start ["rules", "grounds", "name", "found", "number", "come"] vs) H := by
  obtain ⟨b, g, as, rs, ss, W, rfl, hb, hR, hl, hg, hW1, hW2, hW3, nd, q⟩ := h
  show t_rounds K Z _ [some (.ref b), some (.ref g), none, none, none, none] H
  unfold t_rounds
  walk_at "rd"
  refine c_iT hg ?_
  refine dc_ex walk_tup (fun i F => F = initF (ss.take i)) (σ0 := [some (.ref b), some (.ref g), none, none, none, none]) rfl rfl (fun i F h => ?_) (fun H' e' => ex_t e' hg) ?_ ?_
  · subst h
    rw [keys_init]
    have h24 := nodup_le (W := W) (nd.sublist (List.take_sublist i ss)) fun z hz => hW2 z (List.mem_of_mem_take hz)
    exact ⟨nd.sublist (List.take_sublist _ _), by rw [← len_keys, keys_init]; omega⟩
  · intro i F x H2 H3 QK hi hF e2 hy k1
    obtain ⟨rfl, hx⟩ := hy
    rw [List.getElem?_map] at hx
    obtain ⟨z, hz, rfl⟩ := Option.map_eq_some_iff.mp hx
    walk_at "rd"
    refine ⟨rfl, ?_⟩
    walk_at "rd"
    refine k1 z _ _ (Ex.refl _) ?_
    have hn : z ∉ keysF F := by
      rw [hF, keys_init]
      intro k
      have h2 : (ss.take (i + 1)).Nodup := nd.sublist (List.take_sublist _ _)
      rw [take_snoc hz] at h2
      exact (List.nodup_append.mp h2).2.2 _ k _ (List.mem_singleton.mpr rfl) rfl
    rw [putF1_new hn, hF, take_snoc hz]; unfold initF; rw [List.map_append]; rfl
  · intro d H1 F nD e1 hF hd
    rw [List.length_map, List.take_of_length_le (Nat.le_refl _)] at hF
    subst hF
    walk_at "rd"
    refine ⟨b, d, as, rs, initF ss, rfl, e1 _ _ hb, RsAt.ex e1 hR, hl, hd, fun r H2 n2 e2 h2 => ?_⟩
    walk_at "rd"
    refine g_while (fun m σ H' => ∃ (F : TD) (k n : Nat) (y : Option V) (c : Addr), σ = [some (.ref b), some (.ref g), y, some (.ref d), some (.int (n : Nat)), some (.ref c)] ∧ Ex H H' ∧ H' d = some (.dK (dkv F)) ∧ InW W F ∧ H' c = some (.lst ((nextS rs (keysF F)).map V.str)) ∧ c ≠ d ∧ levF rs ss = runF rs k (n + 1) F ∧ W.length + 1 ≤ F.length + k ∧ m = k)
      (m0 := 30) ⟨initF ss, 30, 0, none, r, rfl, e1.trans e2, e2 _ _ hd, InW.init nd hW2, h2, (fun k => by rw [k, hd] at n2; cases n2), rfl, by omega, rfl⟩ ?_ ?_
    · rintro m σ H3 ⟨F, k, n, y, c, rfl, e3, hd3, hI, hc3, ncd, hlev, hm, rfl⟩
      have hFl := hI.len
      have hR3 : RsAt K Z H3 as rs := RsAt.ex e3 hR
      walk_at "rd"
      by_cases hnx : nextS rs (keysF F) = []
      · refine ⟨false, .inl ⟨_, sq_l hc3, by rw [hnx]; rfl⟩, ?_⟩
        refine c_f ?_
        walk_at "rd"
        refine q d H3 e3 ?_
        rw [hlev, run_fix hnx]; exact hd3
      · refine ⟨true, .inl ⟨_, sq_l hc3, by cases hh : nextS rs (keysF F) with
          | nil => exact absurd hh hnx
          | cons _ _ => rfl⟩, ?_⟩
        refine c_t ?_
        obtain ⟨k', rfl⟩ : ∃ k', m = k' + 1 := ⟨m - 1, by omega⟩
        rw [run_step hnx] at hlev
        have hmore := step_more (n := n + 1) hI.1 hnx
        have hI' := hI.step (n := n + 1) hW1
        with_reducible refine c_seq ?_
        refine ⟨_, rfl, ?_⟩
        walk_at "rd"
        refine ⟨_, _, rfl, rfl, ?_⟩
        show tSeq _ _ _ [some (.ref b), some (.ref g), y, some (.ref d), some (.int ((n : Int) + 1)), some (.ref c)] H3
        walk_at "rd"
        refine c_iL (sq_l hc3) ?_
        refine for_it walk_list (fun i σ H' => ∃ y, σ = [some (.ref b), some (.ref g), y, some (.ref d), some (.int ((n : Int) + 1)), some (.ref c)] ∧ Exb d H3 H' ∧ H' d = some (.dK (dkv (((nextS rs (keysF F)).take i).foldl (fun G z => putF1 G z (.int ((n + 1 : Nat) : Int))) F))))
          ⟨y, rfl, fun _ _ _ h => h, hd3⟩ (fun _ _ _ _ h => by obtain ⟨_, _, e, _⟩ := h; exact sq_l (e _ _ ncd hc3)) ?_ ?_
        · rintro i x σ H4 H5 hi ⟨y, rfl, e4, hd4⟩ ⟨rfl, hx⟩
          rw [List.getElem?_map] at hx
          obtain ⟨z, hz, rfl⟩ := Option.map_eq_some_iff.mp hx
          walk_at "rd"
          have hnd := fold_put (n := n + 1) ((nextS rs (keysF F)).take i) F hI.1
          have hlen : (((nextS rs (keysF F)).take i).foldl (fun G z => putF1 G z (.int ((n + 1 : Nat) : Int))) F).length ≤ W.length := by
            refine InW.len ⟨hnd.1, fun z hz => ((hnd.2 z).mp hz).elim (hI.2 z) fun k => hW1 z (next_mem (List.mem_of_mem_take k)).1⟩
          refine g_dput hd4 (by rw [len_dkv]; omega) (fun H6 e6 h6 => ?_)
          refine ⟨_, rfl, fun a o na ha => e6 a o na (e4 a o na ha), ?_⟩
          rw [h6, take_snoc hz, List.foldl_append]
          exact congrArg (fun l => some (HO.dK l)) (putK_dkv _ z _ hnd.1)
        · rintro σ H4 ⟨y, rfl, e4, hd4⟩
          rw [List.length_map, List.take_of_length_le (Nat.le_refl _)] at hd4
          walk_at "rd"
          have hd4' : H4 d = some (.dK (dkv (stepF rs (n + 1) F))) := hd4
          have ex4 : Ex H H4 := ex_exb e3 (by
            cases hh : H d with
            | none => rfl
            | some o => exact absurd nD (by rw [hh]; simp)) e4
          refine ⟨b, d, as, rs, stepF rs (n + 1) F, rfl, ex4 _ _ hb, RsAt.ex ex4 hR, hl, hd4', fun r5 H5 n5 e5 h5 => ?_⟩
          walk_at "rd"
          refine ⟨k', by omega, stepF rs (n + 1) F, k', n + 1, _, r5, by push_cast; rfl, ex4.trans e5, e5 _ _ hd4', hI', h5, (fun k => by rw [k, hd4'] at n5; cases n5), hlev, by omega, rfl⟩
    · intro σ H Q Q' hQ h
      obtain ⟨v, hv, k, hk, hq⟩ := h
      exact ⟨v, hv, k, hk, hQ _ _ hq⟩

end
end K11

set_option maxHeartbeats 800000
namespace K11
open PySem PySem.Spec PyProof.Rows L2 Evl Gx
local macro_rules | `(tactic| walk_at "get") => `(tactic| first
  | assumption
  | exact upd_same
  | ((with_reducible refine sq_l ?_); walk_at "get")
  | ((with_reducible refine sq_t ?_); walk_at "get")
  | ((with_reducible refine ex_l (by assumption) ?_); walk_at "get")
  | ((with_reducible refine ex_t (by assumption) ?_); walk_at "get")
  | ((with_reducible refine Draw.ex (by assumption) ?_); walk_at "get")
  | ((with_reducible refine Arg.ex (by assumption) ?_); walk_at "get")
  | ((with_reducible refine IsRule.ex (by assumption) ?_); walk_at "get")
  | ((with_reducible refine Thing.ex (by assumption) ?_); walk_at "get")
  | ((with_reducible refine exget (by assumption) ?_); walk_at "get"))
local macro_rules | `(tactic| walk_at "rd1") => `(tactic| first
  | (with_reducible refine c_seq ?_)
  | (with_reducible refine c_next ?_)
  | (with_reducible refine c_drop ?_)
  | (with_reducible refine c_ret ?_)
  | (with_reducible refine c_retN ?_)
  | (with_reducible refine c_ifs ?_)
  | (with_reducible refine c_c ?_)
  | (with_reducible refine c_op ?_)
  | (with_reducible refine c_un ?_)
  | (with_reducible refine c_cb ?_)
  | (with_reducible refine c_nil ?_)
  | (with_reducible refine c_cons ?_)
  | (with_reducible refine c_call ?_)
  | (with_reducible refine c_callK ?_)
  | (with_reducible refine c_test ?_)
  | (with_reducible refine c_tB ?_)
  | (with_reducible refine c_and ?_)
  | (with_reducible refine c_or ?_)
  | (with_reducible refine c_not ?_)
  | (with_reducible refine c_andV ?_)
  | (with_reducible refine c_orV ?_)
  | (with_reducible refine c_notV ?_)
  | (with_reducible refine c_if ?_)
  | (with_reducible refine c_chain ?_)
  | (with_reducible refine c_sl ?_)
  | (with_reducible refine c_nop ?_)
  | (with_reducible refine c_part ?_)
  | (with_reducible refine c_lst ?_)
  | (with_reducible refine c_tup ?_)
  | (with_reducible refine c_bl ?_)
  | (with_reducible refine c_blP ?_)
  | (with_reducible refine c_parti ?_)
  | (with_reducible refine c_t ?_)
  | (with_reducible refine c_f ?_)
  | (with_reducible refine g_add_i ?_)
  | (with_reducible refine g_sub_i ?_)
  | (with_reducible refine g_neg ?_)
  | (with_reducible refine g_eq_i ?_)
  | (with_reducible refine g_eq_st ?_)
  | (with_reducible refine g_eq_b ?_)
  | (with_reducible refine g_ne_i ?_)
  | (with_reducible refine g_ne_st ?_)
  | (with_reducible refine g_ne_b ?_)
  | (with_reducible refine g_lt_i ?_)
  | (with_reducible refine g_le_i ?_)
  | (with_reducible refine g_gt_i ?_)
  | (with_reducible refine g_ge_i ?_)
  | (with_reducible refine g_le_s ?_)
  | (with_reducible refine g_in_s ?_)
  | (with_reducible refine g_ni_s ?_)
  | (with_reducible refine c_brk ?_)
  | (with_reducible refine c_cont ?_)
  | (with_reducible refine c_for ?_)
  | (with_reducible refine c_lcW ?_)
  | (with_reducible refine c_iList ?_)
  | (with_reducible refine c_iTup ?_)
  | (with_reducible refine c_iStr ?_)
  | (with_reducible refine c_iRng1 ?_)
  | (with_reducible refine c_iS ?_)
  | (with_reducible refine c_yes ?_)
  | (with_reducible refine c_sub ?_)
  | (with_reducible refine c_pair ?_)
  | (with_reducible refine c_pnil ?_)
  | (with_reducible refine c_isn ?_)
  | (with_reducible refine c_notn ?_)
  | (with_reducible refine c_sfld ?_)
  | (with_reducible refine c_fld ?_)
  | (with_reducible refine c_raise ?_)
  | (with_reducible refine c_meth0 ?_)
  | (with_reducible refine c_iEnum ?_)
  | (with_reducible refine c_bm ?_)
  | (with_reducible refine c_bm0 ?_)
  | (with_reducible refine c_mk ?_)
  | (with_reducible refine c_try ?_)
  | (with_reducible refine c_iEnumT ?_)
  | (with_reducible refine c_callKS ?_)
  | (with_reducible refine c_tryO ?_)
  | (with_reducible refine c_repl ?_)
  | (with_reducible refine c_fmt ?_)
  | (with_reducible refine c_fs ?_)
  | (with_reducible refine c_jn ?_)
  | (with_reducible refine c_jc ?_)
  | (with_reducible refine c_tru ?_)
  | (with_reducible refine c_m1 ?_)
  | (with_reducible refine c_dget ?_)
  | (with_reducible refine c_din ?_)
  | (with_reducible refine c_dni ?_)
  | (with_reducible refine c_dput ?_)
  | (with_reducible refine c_star ?_)
  | (with_reducible refine c_while ?_)
  | (with_reducible refine c_dcW ?_)
  | (with_reducible refine c_var0 ?_)
  | (with_reducible refine c_asg0 ?_)
  | (with_reducible refine c_nam0 ?_)
  | (with_reducible refine c_var1 ?_)
  | (with_reducible refine c_asg1 ?_)
  | (with_reducible refine c_nam1 ?_)
  | (with_reducible refine c_var2 ?_)
  | (with_reducible refine c_asg2 ?_)
  | (with_reducible refine c_nam2 ?_)
  | (with_reducible refine c_var3 ?_)
  | (with_reducible refine c_asg3 ?_)
  | (with_reducible refine c_nam3 ?_)
  | (with_reducible refine c_var4 ?_)
  | (with_reducible refine c_asg4 ?_)
  | (with_reducible refine c_nam4 ?_)
  | (with_reducible refine c_var5 ?_)
  | (with_reducible refine c_asg5 ?_)
  | (with_reducible refine c_nam5 ?_)
  | (with_reducible refine c_var6 ?_)
  | (with_reducible refine c_asg6 ?_)
  | (with_reducible refine c_nam6 ?_)
  | (with_reducible refine c_var7 ?_)
  | (with_reducible refine c_asg7 ?_)
  | (with_reducible refine c_nam7 ?_)
  | (with_reducible refine c_var8 ?_)
  | (with_reducible refine c_asg8 ?_)
  | (with_reducible refine c_nam8 ?_)
  | (with_reducible refine c_var9 ?_)
  | (with_reducible refine c_asg9 ?_)
  | (with_reducible refine c_nam9 ?_)
  | (with_reducible refine c_var10 ?_)
  | (with_reducible refine c_asg10 ?_)
  | (with_reducible refine c_nam10 ?_)
  | (with_reducible refine c_var11 ?_)
  | (with_reducible refine c_asg11 ?_)
  | (with_reducible refine c_nam11 ?_)
  | (with_reducible refine c_var12 ?_)
  | (with_reducible refine c_asg12 ?_)
  | (with_reducible refine c_nam12 ?_)
  | (with_reducible refine c_var13 ?_)
  | (with_reducible refine c_asg13 ?_)
  | (with_reducible refine c_nam13 ?_)
  | (with_reducible refine c_var14 ?_)
  | (with_reducible refine c_asg14 ?_)
  | (with_reducible refine c_nam14 ?_)
  | (with_reducible refine c_var15 ?_)
  | (with_reducible refine c_asg15 ?_)
  | (with_reducible refine c_nam15 ?_)
  | (with_reducible refine c_asgG ?_)
  | ((with_reducible refine g_ix_l (xs := ?gxa) (v := ?gxb) ?gx1 ?gx2 ?gx3); (case gx1 => walk_at "get"); (case gx2 => rfl))
  | ((with_reducible refine g_len_l (xs := ?gxa) (.inl ?gx1) ?gx3); (case gx1 => walk_at "get"))
  | ((with_reducible refine g_mod_i ?gx1 ?gx3); (case gx1 => omega)))
local macro_rules | `(tactic| walk_at "rd") => `(tactic| repeat walk_at "rd1")
local macro_rules | `(tactic| walk_at "rs1") => `(tactic| first
  | (with_reducible refine c_next ?_)
  | (with_reducible refine c_drop ?_)
  | (with_reducible refine c_ret ?_)
  | (with_reducible refine c_retN ?_)
  | (with_reducible refine c_ifs ?_)
  | (with_reducible refine c_c ?_)
  | (with_reducible refine c_op ?_)
  | (with_reducible refine c_un ?_)
  | (with_reducible refine c_cb ?_)
  | (with_reducible refine c_nil ?_)
  | (with_reducible refine c_cons ?_)
  | (with_reducible refine c_call ?_)
  | (with_reducible refine c_callK ?_)
  | (with_reducible refine c_test ?_)
  | (with_reducible refine c_tB ?_)
  | (with_reducible refine c_and ?_)
  | (with_reducible refine c_or ?_)
  | (with_reducible refine c_not ?_)
  | (with_reducible refine c_andV ?_)
  | (with_reducible refine c_orV ?_)
  | (with_reducible refine c_notV ?_)
  | (with_reducible refine c_chain ?_)
  | (with_reducible refine c_sl ?_)
  | (with_reducible refine c_nop ?_)
  | (with_reducible refine c_part ?_)
  | (with_reducible refine c_lst ?_)
  | (with_reducible refine c_tup ?_)
  | (with_reducible refine c_bl ?_)
  | (with_reducible refine c_blP ?_)
  | (with_reducible refine c_parti ?_)
  | (with_reducible refine c_t ?_)
  | (with_reducible refine c_f ?_)
  | (with_reducible refine g_add_i ?_)
  | (with_reducible refine g_sub_i ?_)
  | (with_reducible refine g_neg ?_)
  | (with_reducible refine g_eq_i ?_)
  | (with_reducible refine g_eq_st ?_)
  | (with_reducible refine g_eq_b ?_)
  | (with_reducible refine g_ne_i ?_)
  | (with_reducible refine g_ne_st ?_)
  | (with_reducible refine g_ne_b ?_)
  | (with_reducible refine g_lt_i ?_)
  | (with_reducible refine g_le_i ?_)
  | (with_reducible refine g_gt_i ?_)
  | (with_reducible refine g_ge_i ?_)
  | (with_reducible refine g_le_s ?_)
  | (with_reducible refine g_in_s ?_)
  | (with_reducible refine g_ni_s ?_)
  | (with_reducible refine c_brk ?_)
  | (with_reducible refine c_cont ?_)
  | (with_reducible refine c_for ?_)
  | (with_reducible refine c_lcW ?_)
  | (with_reducible refine c_iList ?_)
  | (with_reducible refine c_iTup ?_)
  | (with_reducible refine c_iStr ?_)
  | (with_reducible refine c_iRng1 ?_)
  | (with_reducible refine c_iS ?_)
  | (with_reducible refine c_yes ?_)
  | (with_reducible refine c_sub ?_)
  | (with_reducible refine c_pair ?_)
  | (with_reducible refine c_pnil ?_)
  | (with_reducible refine c_isn ?_)
  | (with_reducible refine c_notn ?_)
  | (with_reducible refine c_sfld ?_)
  | (with_reducible refine c_fld ?_)
  | (with_reducible refine c_raise ?_)
  | (with_reducible refine c_meth0 ?_)
  | (with_reducible refine c_iEnum ?_)
  | (with_reducible refine c_bm ?_)
  | (with_reducible refine c_bm0 ?_)
  | (with_reducible refine c_mk ?_)
  | (with_reducible refine c_try ?_)
  | (with_reducible refine c_iEnumT ?_)
  | (with_reducible refine c_callKS ?_)
  | (with_reducible refine c_tryO ?_)
  | (with_reducible refine c_repl ?_)
  | (with_reducible refine c_fmt ?_)
  | (with_reducible refine c_fs ?_)
  | (with_reducible refine c_jn ?_)
  | (with_reducible refine c_jc ?_)
  | (with_reducible refine c_tru ?_)
  | (with_reducible refine c_m1 ?_)
  | (with_reducible refine c_dget ?_)
  | (with_reducible refine c_din ?_)
  | (with_reducible refine c_dni ?_)
  | (with_reducible refine c_dput ?_)
  | (with_reducible refine c_star ?_)
  | (with_reducible refine c_while ?_)
  | (with_reducible refine c_dcW ?_)
  | (with_reducible refine c_var0 ?_)
  | (with_reducible refine c_asg0 ?_)
  | (with_reducible refine c_nam0 ?_)
  | (with_reducible refine c_var1 ?_)
  | (with_reducible refine c_asg1 ?_)
  | (with_reducible refine c_nam1 ?_)
  | (with_reducible refine c_var2 ?_)
  | (with_reducible refine c_asg2 ?_)
  | (with_reducible refine c_nam2 ?_)
  | (with_reducible refine c_var3 ?_)
  | (with_reducible refine c_asg3 ?_)
  | (with_reducible refine c_nam3 ?_)
  | (with_reducible refine c_var4 ?_)
  | (with_reducible refine c_asg4 ?_)
  | (with_reducible refine c_nam4 ?_)
  | (with_reducible refine c_var5 ?_)
  | (with_reducible refine c_asg5 ?_)
  | (with_reducible refine c_nam5 ?_)
  | (with_reducible refine c_var6 ?_)
  | (with_reducible refine c_asg6 ?_)
  | (with_reducible refine c_nam6 ?_)
  | (with_reducible refine c_var7 ?_)
  | (with_reducible refine c_asg7 ?_)
  | (with_reducible refine c_nam7 ?_)
  | (with_reducible refine c_var8 ?_)
  | (with_reducible refine c_asg8 ?_)
  | (with_reducible refine c_nam8 ?_)
  | (with_reducible refine c_var9 ?_)
  | (with_reducible refine c_asg9 ?_)
  | (with_reducible refine c_nam9 ?_)
  | (with_reducible refine c_var10 ?_)
  | (with_reducible refine c_asg10 ?_)
  | (with_reducible refine c_nam10 ?_)
  | (with_reducible refine c_var11 ?_)
  | (with_reducible refine c_asg11 ?_)
  | (with_reducible refine c_nam11 ?_)
  | (with_reducible refine c_var12 ?_)
  | (with_reducible refine c_asg12 ?_)
  | (with_reducible refine c_nam12 ?_)
  | (with_reducible refine c_var13 ?_)
  | (with_reducible refine c_asg13 ?_)
  | (with_reducible refine c_nam13 ?_)
  | (with_reducible refine c_var14 ?_)
  | (with_reducible refine c_asg14 ?_)
  | (with_reducible refine c_nam14 ?_)
  | (with_reducible refine c_var15 ?_)
  | (with_reducible refine c_asg15 ?_)
  | (with_reducible refine c_nam15 ?_)
  | (with_reducible refine c_asgG ?_)
  | ((with_reducible refine g_ix_l (xs := ?gxa) (v := ?gxb) ?gx1 ?gx2 ?gx3); (case gx1 => walk_at "get"); (case gx2 => rfl))
  | ((with_reducible refine g_len_l (xs := ?gxa) (.inl ?gx1) ?gx3); (case gx1 => walk_at "get"))
  | ((with_reducible refine g_mod_i ?gx1 ?gx3); (case gx1 => omega)))
local macro_rules | `(tactic| walk_at "rs") => `(tactic| repeat walk_at "rs1")
section
variable {P : Program} {w : World} {K : PySem.W.Frag} {mg : Str → Option Value} {base : Heap} {Z : Ads}
theorem rd_wanted_names {vs : List V} {H : Hp} {Q : VK} {E : XK} (h : sp_wanted_names K vs H Q E) : t_wanted_names K Z { nx := fun _ H' => Q .non H', rt := Q } (start ["thing", "most"] vs) H := by
  obtain ⟨q0, ss, rfl, hq, nm, nd, hl, q⟩ := h
  show t_wanted_names K Z _ [some (.ref q0), some (.int 24)] H
  unfold t_wanted_names
  walk_at "rd"
  have g : nmsO (some (ss.map V.str)) 24 = true := by
    rw [nmsO_some, decide_eq_true (by rw [List.length_map]; exact hl), decide_eq_true (nodup_strs.mpr nd), show (ss.map V.str).all isNm = true by
      rw [List.all_map, List.all_eq_true]; exact nm]
    rfl
  refine ⟨.ref q0, 24, some (ss.map V.str), rfl, ⟨⟨q0, rfl, hq⟩, by rw [List.length_map]; omega, fun v hv => by
    obtain ⟨z, hz, rfl⟩ := List.mem_map.mp hv
    have := nameS_len (nm z hz)
    exact ⟨by omega, nameS_ok (nm z hz)⟩⟩, by omega, fun H1 e1 => ?_⟩
  rw [g]
  walk_at "rd"
  refine c_f ?_
  walk_at "rd"
  exact g_tupleS (SqA.ex e1 hq) fun r H2 e2 h2 => q r H2 (e1.trans e2) h2
theorem keys_true {F : TD} {W : List Str} (h : InW W F) (hW : W.length < 64) : F.length < 100000 := by have := h.len; omega
theorem rd_names_in {vs : List V} {H : Hp} {Q : VK} {E : XK} (R : RuleC K Z.Rule) (h : sp_names_in K Z vs H Q E) : t_names_in K Z { nx := fun _ H' => Q .non H', rt := Q } (start ["rules", "more", "name", "found", "rule"] vs) H := by
  obtain ⟨p, q0, as, rs, ss, W, rfl, hp, hR, hq, hW1, hW2, hW3, hl, hl2, q⟩ := h
  show t_names_in K Z _ [some (.ref p), some (.ref q0), none, none, none] H
  unfold t_names_in
  walk_at "rd"
  -- what the dict is so far
  have turnD : ∀ i F x H2 (QK : V → V → Hp → Prop), i < (ss.map V.str).length → (InW W F ∧ ∀ z, z ∈ keysF F ↔ z ∈ ss.take i) → Ex H H2 → (ss.map V.str)[i]? = some x → (∀ z v H6, Ex H2 H6 → (InW W (putF1 F z v) ∧ ∀ y, y ∈ keysF (putF1 F z v) ↔ y ∈ ss.take (i + 1)) → QK (.str z) v H6) →
      gName 2 x [some (.ref p), some (.ref q0), none, none, none] H2 fun σ2 H4 => wipe σ2 [2] = [some (.ref p), some (.ref q0), none, none, none] ∧ tVar 2 σ2 H4 fun y H5 => tC (.bl true) σ2 H5 fun v H6 => QK y v H6 := by
    intro i F x H2 QK hi ⟨hI, hm⟩ e2 hx k1
    rw [List.getElem?_map] at hx
    obtain ⟨z, hz, rfl⟩ := Option.map_eq_some_iff.mp hx
    walk_at "rd"
    refine ⟨rfl, ?_⟩
    walk_at "rd"
    refine k1 z _ _ (Ex.refl _) ⟨⟨nodup_put hI.1, fun y hy => (mem_put.mp hy).elim (hI.2 y) fun e => by rw [e]; exact hW2 z (List.mem_of_getElem? hz)⟩, fun y => ?_⟩
    rw [mem_put, hm, take_snoc hz, List.mem_append, List.mem_singleton]
  have rest : ∀ D H1 F, H D = none → Ex H H1 → (InW W F ∧ ∀ z, z ∈ keysF F ↔ z ∈ ss.take (ss.map V.str).length) → H1 D = some (.dK (dkv F)) →
      tSeq (tFor (iOr (iList K (tVar 0)) (iTup K (tVar 0))) (gName 4) (tFor (iTup K (tTup (tCons (tFld K (tVar 4) "head") (StX.tStar K (tFld K (tVar 4) "body") (StX.tStar K (tFld K (tVar 4) "unless") tNil))))) (gName 2) (tIfS (tTest (tOp rNotN (tVar 2) (tC .non))) (sDPut (tVar 3) (tVar 2) (tC (.bl true))) tNext)))
        (tRet (tCB (gSorted K) (tCons (tVar 3) tNil))) { nx := fun _ H' => Q .non H', rt := Q } [some (.ref p), some (.ref q0), none, some (.ref D), none] H1 := by
    intro D H1 F nD e1 ⟨hI0, hm0⟩ hD
    rw [List.length_map, List.take_of_length_le (Nat.le_refl _)] at hm0
    walk_at "rd"
    refine for_seq (fun R h => by walk_at "rd"; exact h) hp e1 (fun i σ H' => ∃ y z, σ = [some (.ref p), some (.ref q0), y, some (.ref D), z] ∧ Ex H H' ∧ ∃ F, H' D = some (.dK (dkv F)) ∧ InW W F ∧ ∀ x, x ∈ keysF F ↔ x ∈ ss ∨ x ∈ Gx.namesOf (rs.take i))
      ⟨none, none, rfl, e1, F, hD, hI0, fun x => by rw [hm0]; simp [Gx.namesOf]⟩ (fun i σ' H' h => by obtain ⟨_, _, _, e, _⟩ := h; exact e) ?_ ?_
    · rintro i x σ H2 hi ⟨y, z, rfl, e2, F2, hD2, hI2, hm2⟩ hx
      rw [List.getElem?_map] at hx
      obtain ⟨a, ha, rfl⟩ := Option.map_eq_some_iff.mp hx
      obtain ⟨r, hr, hIr⟩ := RsAt.get (RsAt.ex e2 hR) ha
      obtain ⟨dx, pb, pu, h1, h2, h3, h4, h5, h6⟩ := rule_facts hIr
      walk_at "rd"
      refine g_fld h1 R.cls R.nh rfl ?_
      walk_at "rd"
      refine g_fld h1 R.cls R.nb rfl ?_
      refine g_star (.inl h2) ?_
      walk_at "rd"
      refine g_fld h1 R.cls R.nu rfl ?_
      refine g_star (.inl h3) ?_
      walk_at "rd"
      refine c_tupE (by simp; omega) (fun tp H3 n3 e3 h3' => ?_)
      have h3'' : H3 tp = some (.tup (r.1 :: r.2.map V.str)) := by rw [h3']; simp
      refine c_iT (sq_t h3'') ?_
      have hrs : Gx.namesOf (rs.take (i + 1)) = Gx.namesOf (rs.take i) ++ (headsOf r.1 ++ r.2) := by rw [take_snoc hr]; unfold Gx.namesOf; rw [List.flatMap_append]; simp
      have hall : ∀ x ∈ headsOf r.1 ++ r.2, x ∈ W := fun x hx' => hW1 x (List.mem_flatMap.mpr ⟨r, List.mem_of_getElem? hr, hx'⟩)
      refine for_it (walk_tup (xs := r.1 :: r.2.map V.str)) (fun j σ H' => ∃ y, σ = [some (.ref p), some (.ref q0), y, some (.ref D), some (.ref a)] ∧ Ex H H' ∧ H' tp = some (.tup (r.1 :: r.2.map V.str)) ∧ ∃ F, H' D = some (.dK (dkv F)) ∧ InW W F ∧ ∀ x, x ∈ keysF F ↔ (x ∈ ss ∨ x ∈ Gx.namesOf (rs.take i)) ∨ V.str x ∈ (r.1 :: r.2.map V.str).take j)
        ⟨_, rfl, e2.trans e3, h3'', F2, e3 _ _ hD2, hI2, fun x => by rw [hm2]; simp⟩ (fun _ _ _ _ h => by obtain ⟨_, _, _, k, _⟩ := h; exact sq_t k) ?_ ?_
      · rintro j v σ H4 H5 hj ⟨y, rfl, e4, htp, F4, hD4, hI4, hm4⟩ ⟨rfl, hv⟩
        have hmem : v ∈ r.1 :: r.2.map V.str := List.mem_of_getElem? hv
        have htk : (r.1 :: r.2.map V.str).take (j + 1) = (r.1 :: r.2.map V.str).take j ++ [v] := take_snoc hv
        walk_at "rd"
        have hcase : v = .non ∨ ∃ z, v = .str z ∧ z ∈ headsOf r.1 ++ r.2 := by
          rcases List.mem_cons.mp hmem with rfl | k
          · rcases h4 with k | ⟨z, hz, _⟩
            · exact .inl k
            · exact .inr ⟨z, hz, by rw [hz]; exact List.mem_append_left _ (.head _)⟩
          · obtain ⟨z, hz, rfl⟩ := List.mem_map.mp k
            exact .inr ⟨z, rfl, List.mem_append_right _ hz⟩
        rcases hcase with rfl | ⟨z, rfl, hz⟩
        · refine c_nd (fun k => absurd rfl k) (fun _ => ?_)
          walk_at "rd"
          refine ⟨_, rfl, e4, htp, F4, hD4, hI4, fun x => ?_⟩
          rw [hm4, htk, List.mem_append, List.mem_singleton]
          exact ⟨fun k => k.imp id .inl, fun k => k.imp id fun m => m.elim id fun q => by cases q⟩
        · refine c_nd (fun _ => ?_) (fun k => by cases k)
          walk_at "rd"
          have hF4 := hI4.len
          refine g_dput hD4 (by rw [len_dkv]; omega) (fun H6 e6 h6 => ?_)
          refine ⟨_, rfl, ex_exb e4 nD e6, e6 _ _ (fun k => by rw [k, hD4] at htp; cases htp) htp, putF1 F4 z (.bl true), by rw [h6, putK_dkv _ _ _ hI4.1], ⟨nodup_put hI4.1, fun y hy => (mem_put.mp hy).elim (hI4.2 y) fun e => by rw [e]; exact hall z hz⟩, fun x => ?_⟩
          rw [mem_put, hm4, htk, List.mem_append, List.mem_singleton, or_assoc]
          exact or_congr_right (or_congr_right ⟨fun e => by rw [e], fun e => V.str.inj e⟩)
      · rintro σ H4 ⟨y, rfl, e4, htp, F4, hD4, hI4, hm4⟩
        refine ⟨_, _, rfl, e4, F4, hD4, hI4, fun x => ?_⟩
        rw [hm4, hrs, List.mem_append, or_assoc]
        refine or_congr_right (or_congr_right ?_)
        rw [List.take_of_length_le (by simp)]
        rw [List.mem_cons, List.mem_append]
        refine or_congr ?_ ?_
        · rcases h4 with k | ⟨z, hz, _⟩
          · rw [k]; simp [headsOf]
          · rw [hz]; simp only [headsOf, List.mem_singleton]; exact ⟨fun e => V.str.inj e, fun e => by rw [e]⟩
        · rw [List.mem_map]
          exact ⟨fun ⟨z, hz, e⟩ => V.str.inj e ▸ hz, fun h => ⟨x, h, rfl⟩⟩
    · rintro σ H2 ⟨y, z, rfl, e2, F2, hD2, hI2, hm2⟩
      rw [List.length_map, RsAt.len hR, List.take_of_length_le (Nat.le_refl _)] at hm2
      walk_at "rd"
      refine g_sortD (ks := keysF F2) hD2 (by unfold dkv keysF; rw [List.map_map, List.map_map]; rfl) (by have := hI2.len; rw [len_keys]; omega) (fun ys r H3 hperm hsort nr e3 h3 => ?_)
      exact q ys r H3 (e2.trans e3) h3 ((hperm.nodup_iff).mpr hI2.1) (fun x => by rw [hperm.mem_iff, hm2]) hsort
  rcases hq with hq | hq
  · refine .inl ?_
    walk_at "rd"
    refine c_iL hq ?_
    refine dc_ex walk_list (fun i F => InW W F ∧ ∀ z, z ∈ keysF F ↔ z ∈ ss.take i) (σ0 := [some (.ref p), some (.ref q0), none, none, none]) rfl ⟨⟨by simp [keysF], by simp [keysF]⟩, by simp [keysF]⟩ (fun i F h => ⟨h.1.1, keys_true h.1 hW3⟩) (fun H' e' => ex_l e' hq) ?_ ?_
    · intro i F x H2 H3 QK hi hF e2 hy k1
      obtain ⟨rfl, hx⟩ := hy
      exact turnD i F x _ QK hi hF e2 hx k1
    · intro D H1 F nD e1 hF hD
      exact rest D H1 F nD e1 hF hD
  · refine .inr ?_
    walk_at "rd"
    refine c_iT hq ?_
    refine dc_ex walk_tup (fun i F => InW W F ∧ ∀ z, z ∈ keysF F ↔ z ∈ ss.take i) (σ0 := [some (.ref p), some (.ref q0), none, none, none]) rfl ⟨⟨by simp [keysF], by simp [keysF]⟩, by simp [keysF]⟩ (fun i F h => ⟨h.1.1, keys_true h.1 hW3⟩) (fun H' e' => ex_t e' hq) ?_ ?_
    · intro i F x H2 H3 QK hi hF e2 hy k1
      obtain ⟨rfl, hx⟩ := hy
      exact turnD i F x _ QK hi hF e2 hx k1
    · intro D H1 F nD e1 hF hD
      exact rest D H1 F nD e1 hF hD

end
end K11

set_option maxHeartbeats 800000
namespace K11
open PySem PySem.Spec PyProof.Rows L2 Evl Gx
local macro_rules | `(tactic| walk_at "get") => `(tactic| first
  | assumption
  | exact upd_same
  | ((with_reducible refine sq_l ?_); walk_at "get")
  | ((with_reducible refine sq_t ?_); walk_at "get")
  | ((with_reducible refine ex_l (by assumption) ?_); walk_at "get")
  | ((with_reducible refine ex_t (by assumption) ?_); walk_at "get")
  | ((with_reducible refine Draw.ex (by assumption) ?_); walk_at "get")
  | ((with_reducible refine Arg.ex (by assumption) ?_); walk_at "get")
  | ((with_reducible refine IsRule.ex (by assumption) ?_); walk_at "get")
  | ((with_reducible refine Thing.ex (by assumption) ?_); walk_at "get")
  | ((with_reducible refine exget (by assumption) ?_); walk_at "get"))
local macro_rules | `(tactic| walk_at "rd1") => `(tactic| first
  | (with_reducible refine c_seq ?_)
  | (with_reducible refine c_next ?_)
  | (with_reducible refine c_drop ?_)
  | (with_reducible refine c_ret ?_)
  | (with_reducible refine c_retN ?_)
  | (with_reducible refine c_ifs ?_)
  | (with_reducible refine c_c ?_)
  | (with_reducible refine c_op ?_)
  | (with_reducible refine c_un ?_)
  | (with_reducible refine c_cb ?_)
  | (with_reducible refine c_nil ?_)
  | (with_reducible refine c_cons ?_)
  | (with_reducible refine c_call ?_)
  | (with_reducible refine c_callK ?_)
  | (with_reducible refine c_test ?_)
  | (with_reducible refine c_tB ?_)
  | (with_reducible refine c_and ?_)
  | (with_reducible refine c_or ?_)
  | (with_reducible refine c_not ?_)
  | (with_reducible refine c_andV ?_)
  | (with_reducible refine c_orV ?_)
  | (with_reducible refine c_notV ?_)
  | (with_reducible refine c_if ?_)
  | (with_reducible refine c_chain ?_)
  | (with_reducible refine c_sl ?_)
  | (with_reducible refine c_nop ?_)
  | (with_reducible refine c_part ?_)
  | (with_reducible refine c_lst ?_)
  | (with_reducible refine c_tup ?_)
  | (with_reducible refine c_bl ?_)
  | (with_reducible refine c_blP ?_)
  | (with_reducible refine c_parti ?_)
  | (with_reducible refine c_t ?_)
  | (with_reducible refine c_f ?_)
  | (with_reducible refine g_add_i ?_)
  | (with_reducible refine g_sub_i ?_)
  | (with_reducible refine g_neg ?_)
  | (with_reducible refine g_eq_i ?_)
  | (with_reducible refine g_eq_st ?_)
  | (with_reducible refine g_eq_b ?_)
  | (with_reducible refine g_ne_i ?_)
  | (with_reducible refine g_ne_st ?_)
  | (with_reducible refine g_ne_b ?_)
  | (with_reducible refine g_lt_i ?_)
  | (with_reducible refine g_le_i ?_)
  | (with_reducible refine g_gt_i ?_)
  | (with_reducible refine g_ge_i ?_)
  | (with_reducible refine g_le_s ?_)
  | (with_reducible refine g_in_s ?_)
  | (with_reducible refine g_ni_s ?_)
  | (with_reducible refine c_brk ?_)
  | (with_reducible refine c_cont ?_)
  | (with_reducible refine c_for ?_)
  | (with_reducible refine c_lcW ?_)
  | (with_reducible refine c_iList ?_)
  | (with_reducible refine c_iTup ?_)
  | (with_reducible refine c_iStr ?_)
  | (with_reducible refine c_iRng1 ?_)
  | (with_reducible refine c_iS ?_)
  | (with_reducible refine c_yes ?_)
  | (with_reducible refine c_sub ?_)
  | (with_reducible refine c_pair ?_)
  | (with_reducible refine c_pnil ?_)
  | (with_reducible refine c_isn ?_)
  | (with_reducible refine c_notn ?_)
  | (with_reducible refine c_sfld ?_)
  | (with_reducible refine c_fld ?_)
  | (with_reducible refine c_raise ?_)
  | (with_reducible refine c_meth0 ?_)
  | (with_reducible refine c_iEnum ?_)
  | (with_reducible refine c_bm ?_)
  | (with_reducible refine c_bm0 ?_)
  | (with_reducible refine c_mk ?_)
  | (with_reducible refine c_try ?_)
  | (with_reducible refine c_iEnumT ?_)
  | (with_reducible refine c_callKS ?_)
  | (with_reducible refine c_tryO ?_)
  | (with_reducible refine c_repl ?_)
  | (with_reducible refine c_fmt ?_)
  | (with_reducible refine c_fs ?_)
  | (with_reducible refine c_jn ?_)
  | (with_reducible refine c_jc ?_)
  | (with_reducible refine c_tru ?_)
  | (with_reducible refine c_m1 ?_)
  | (with_reducible refine c_dget ?_)
  | (with_reducible refine c_din ?_)
  | (with_reducible refine c_dni ?_)
  | (with_reducible refine c_dput ?_)
  | (with_reducible refine c_star ?_)
  | (with_reducible refine c_while ?_)
  | (with_reducible refine c_dcW ?_)
  | (with_reducible refine c_var0 ?_)
  | (with_reducible refine c_asg0 ?_)
  | (with_reducible refine c_nam0 ?_)
  | (with_reducible refine c_var1 ?_)
  | (with_reducible refine c_asg1 ?_)
  | (with_reducible refine c_nam1 ?_)
  | (with_reducible refine c_var2 ?_)
  | (with_reducible refine c_asg2 ?_)
  | (with_reducible refine c_nam2 ?_)
  | (with_reducible refine c_var3 ?_)
  | (with_reducible refine c_asg3 ?_)
  | (with_reducible refine c_nam3 ?_)
  | (with_reducible refine c_var4 ?_)
  | (with_reducible refine c_asg4 ?_)
  | (with_reducible refine c_nam4 ?_)
  | (with_reducible refine c_var5 ?_)
  | (with_reducible refine c_asg5 ?_)
  | (with_reducible refine c_nam5 ?_)
  | (with_reducible refine c_var6 ?_)
  | (with_reducible refine c_asg6 ?_)
  | (with_reducible refine c_nam6 ?_)
  | (with_reducible refine c_var7 ?_)
  | (with_reducible refine c_asg7 ?_)
  | (with_reducible refine c_nam7 ?_)
  | (with_reducible refine c_var8 ?_)
  | (with_reducible refine c_asg8 ?_)
  | (with_reducible refine c_nam8 ?_)
  | (with_reducible refine c_var9 ?_)
  | (with_reducible refine c_asg9 ?_)
  | (with_reducible refine c_nam9 ?_)
  | (with_reducible refine c_var10 ?_)
  | (with_reducible refine c_asg10 ?_)
  | (with_reducible refine c_nam10 ?_)
  | (with_reducible refine c_var11 ?_)
  | (with_reducible refine c_asg11 ?_)
  | (with_reducible refine c_nam11 ?_)
  | (with_reducible refine c_var12 ?_)
  | (with_reducible refine c_asg12 ?_)
  | (with_reducible refine c_nam12 ?_)
  | (with_reducible refine c_var13 ?_)
  | (with_reducible refine c_asg13 ?_)
  | (with_reducible refine c_nam13 ?_)
  | (with_reducible refine c_var14 ?_)
  | (with_reducible refine c_asg14 ?_)
  | (with_reducible refine c_nam14 ?_)
  | (with_reducible refine c_var15 ?_)
  | (with_reducible refine c_asg15 ?_)
  | (with_reducible refine c_nam15 ?_)
  | (with_reducible refine c_asgG ?_)
  | ((with_reducible refine g_ix_l (xs := ?gxa) (v := ?gxb) ?gx1 ?gx2 ?gx3); (case gx1 => walk_at "get"); (case gx2 => rfl))
  | ((with_reducible refine g_len_l (xs := ?gxa) (.inl ?gx1) ?gx3); (case gx1 => walk_at "get"))
  | ((with_reducible refine g_mod_i ?gx1 ?gx3); (case gx1 => omega)))
local macro_rules | `(tactic| walk_at "rd") => `(tactic| repeat walk_at "rd1")
local macro_rules | `(tactic| walk_at "rs1") => `(tactic| first
  | (with_reducible refine c_next ?_)
  | (with_reducible refine c_drop ?_)
  | (with_reducible refine c_ret ?_)
  | (with_reducible refine c_retN ?_)
  | (with_reducible refine c_ifs ?_)
  | (with_reducible refine c_c ?_)
  | (with_reducible refine c_op ?_)
  | (with_reducible refine c_un ?_)
  | (with_reducible refine c_cb ?_)
  | (with_reducible refine c_nil ?_)
  | (with_reducible refine c_cons ?_)
  | (with_reducible refine c_call ?_)
  | (with_reducible refine c_callK ?_)
  | (with_reducible refine c_test ?_)
  | (with_reducible refine c_tB ?_)
  | (with_reducible refine c_and ?_)
  | (with_reducible refine c_or ?_)
  | (with_reducible refine c_not ?_)
  | (with_reducible refine c_andV ?_)
  | (with_reducible refine c_orV ?_)
  | (with_reducible refine c_notV ?_)
  | (with_reducible refine c_chain ?_)
  | (with_reducible refine c_sl ?_)
  | (with_reducible refine c_nop ?_)
  | (with_reducible refine c_part ?_)
  | (with_reducible refine c_lst ?_)
  | (with_reducible refine c_tup ?_)
  | (with_reducible refine c_bl ?_)
  | (with_reducible refine c_blP ?_)
  | (with_reducible refine c_parti ?_)
  | (with_reducible refine c_t ?_)
  | (with_reducible refine c_f ?_)
  | (with_reducible refine g_add_i ?_)
  | (with_reducible refine g_sub_i ?_)
  | (with_reducible refine g_neg ?_)
  | (with_reducible refine g_eq_i ?_)
  | (with_reducible refine g_eq_st ?_)
  | (with_reducible refine g_eq_b ?_)
  | (with_reducible refine g_ne_i ?_)
  | (with_reducible refine g_ne_st ?_)
  | (with_reducible refine g_ne_b ?_)
  | (with_reducible refine g_lt_i ?_)
  | (with_reducible refine g_le_i ?_)
  | (with_reducible refine g_gt_i ?_)
  | (with_reducible refine g_ge_i ?_)
  | (with_reducible refine g_le_s ?_)
  | (with_reducible refine g_in_s ?_)
  | (with_reducible refine g_ni_s ?_)
  | (with_reducible refine c_brk ?_)
  | (with_reducible refine c_cont ?_)
  | (with_reducible refine c_for ?_)
  | (with_reducible refine c_lcW ?_)
  | (with_reducible refine c_iList ?_)
  | (with_reducible refine c_iTup ?_)
  | (with_reducible refine c_iStr ?_)
  | (with_reducible refine c_iRng1 ?_)
  | (with_reducible refine c_iS ?_)
  | (with_reducible refine c_yes ?_)
  | (with_reducible refine c_sub ?_)
  | (with_reducible refine c_pair ?_)
  | (with_reducible refine c_pnil ?_)
  | (with_reducible refine c_isn ?_)
  | (with_reducible refine c_notn ?_)
  | (with_reducible refine c_sfld ?_)
  | (with_reducible refine c_fld ?_)
  | (with_reducible refine c_raise ?_)
  | (with_reducible refine c_meth0 ?_)
  | (with_reducible refine c_iEnum ?_)
  | (with_reducible refine c_bm ?_)
  | (with_reducible refine c_bm0 ?_)
  | (with_reducible refine c_mk ?_)
  | (with_reducible refine c_try ?_)
  | (with_reducible refine c_iEnumT ?_)
  | (with_reducible refine c_callKS ?_)
  | (with_reducible refine c_tryO ?_)
  | (with_reducible refine c_repl ?_)
  | (with_reducible refine c_fmt ?_)
  | (with_reducible refine c_fs ?_)
  | (with_reducible refine c_jn ?_)
  | (with_reducible refine c_jc ?_)
  | (with_reducible refine c_tru ?_)
  | (with_reducible refine c_m1 ?_)
  | (with_reducible refine c_dget ?_)
  | (with_reducible refine c_din ?_)
  | (with_reducible refine c_dni ?_)
  | (with_reducible refine c_dput ?_)
  | (with_reducible refine c_star ?_)
  | (with_reducible refine c_while ?_)
  | (with_reducible refine c_dcW ?_)
  | (with_reducible refine c_var0 ?_)
  | (with_reducible refine c_asg0 ?_)
  | (with_reducible refine c_nam0 ?_)
  | (with_reducible refine c_var1 ?_)
  | (with_reducible refine c_asg1 ?_)
  | (with_reducible refine c_nam1 ?_)
  | (with_reducible refine c_var2 ?_)
  | (with_reducible refine c_asg2 ?_)
  | (with_reducible refine c_nam2 ?_)
  | (with_reducible refine c_var3 ?_)
  | (with_reducible refine c_asg3 ?_)
  | (with_reducible refine c_nam3 ?_)
  | (with_reducible refine c_var4 ?_)
  | (with_reducible refine c_asg4 ?_)
  | (with_reducible refine c_nam4 ?_)
  | (with_reducible refine c_var5 ?_)
  | (with_reducible refine c_asg5 ?_)
  | (with_reducible refine c_nam5 ?_)
  | (with_reducible refine c_var6 ?_)
  | (with_reducible refine c_asg6 ?_)
  | (with_reducible refine c_nam6 ?_)
  | (with_reducible refine c_var7 ?_)
  | (with_reducible refine c_asg7 ?_)
  | (with_reducible refine c_nam7 ?_)
  | (with_reducible refine c_var8 ?_)
  | (with_reducible refine c_asg8 ?_)
  | (with_reducible refine c_nam8 ?_)
  | (with_reducible refine c_var9 ?_)
  | (with_reducible refine c_asg9 ?_)
  | (with_reducible refine c_nam9 ?_)
  | (with_reducible refine c_var10 ?_)
  | (with_reducible refine c_asg10 ?_)
  | (with_reducible refine c_nam10 ?_)
  | (with_reducible refine c_var11 ?_)
  | (with_reducible refine c_asg11 ?_)
  | (with_reducible refine c_nam11 ?_)
  | (with_reducible refine c_var12 ?_)
  | (with_reducible refine c_asg12 ?_)
  | (with_reducible refine c_nam12 ?_)
  | (with_reducible refine c_var13 ?_)
  | (with_reducible refine c_asg13 ?_)
  | (with_reducible refine c_nam13 ?_)
  | (with_reducible refine c_var14 ?_)
  | (with_reducible refine c_asg14 ?_)
  | (with_reducible refine c_nam14 ?_)
  | (with_reducible refine c_var15 ?_)
  | (with_reducible refine c_asg15 ?_)
  | (with_reducible refine c_nam15 ?_)
  | (with_reducible refine c_asgG ?_)
  | ((with_reducible refine g_ix_l (xs := ?gxa) (v := ?gxb) ?gx1 ?gx2 ?gx3); (case gx1 => walk_at "get"); (case gx2 => rfl))
  | ((with_reducible refine g_len_l (xs := ?gxa) (.inl ?gx1) ?gx3); (case gx1 => walk_at "get"))
  | ((with_reducible refine g_mod_i ?gx1 ?gx3); (case gx1 => omega)))
local macro_rules | `(tactic| walk_at "rs") => `(tactic| repeat walk_at "rs1")
section
variable {P : Program} {w : World} {K : PySem.W.Frag} {mg : Str → Option Value} {base : Heap} {Z : Ads}
theorem g_isi_lt2 {H : Hp} {Q : VK} {p tp : Addr} {xs : List V} (htp : H tp = some (.tup [.ty "list", .ty "tuple"])) (hp : SqA K H p xs) (q : Q (.bl true) H) : gIsi K [.ref p, .ref tp] H Q := by
  have go : ∀ {n}, n ∈ kinds → TyX K H (.ref p) (.type n) → (n == "list" || n == "tuple") = true → gIsi K [.ref p, .ref tp] H Q := fun {n} hn ht e => by
    refine .inr (.inl ⟨_, tp, _, _, _, _, rfl, htp, .cons (.ty "list") (.cons (.ty "tuple") .nil), ht, kit_lt hn, ?_⟩)
    rw [e]; exact q
  rcases hp with h | h
  · exact go (n := "list") (by decide) (sqL_ty h) (show ("list" == "list" || "list" == "tuple") = true by decide)
  · exact go (n := "tuple") (by decide) (sqT_ty h) (show ("tuple" == "list" || "tuple" == "tuple") = true by decide)
theorem rd_is_base {vs : List V} {H : Hp} {Q : VK} {E : XK} (R : RuleC K Z.Rule) (hM : ∀ H, SqT K H Z.Desk []) (h : sp_is_base K Z vs H Q E) : t_is_base K Z (.int 24) (.int 40) { nx := fun _ H' => Q .non H', rt := Q } (start ["thing", "one"] vs) H := by
  obtain ⟨p, as, rs, W, rfl, hp, hR, hl, hW1, hW2, q⟩ := h
  show t_is_base K Z _ _ _ [some (.ref p), none] H
  unfold t_is_base
  have hlen := RsAt.len hR
  walk_at "rd"
  refine c_tupE (by simp) (fun tp H1 n1 e1 h1 => ?_)
  walk_at "rd"
  refine g_isi_lt2 h1 (SqA.ex e1 hp) ?_
  walk_at "rd"
  refine c_f ?_
  walk_at "rd"
  refine g_len_l (SqA.ex e1 hp) ?_
  walk_at "rd"
  refine c_d (fun k => by rw [List.length_map, hlen] at k; omega) (fun _ => ?_)
  walk_at "rd"
  refine lc_seq (fun R h => by walk_at "rd"; exact h) (SqA.ex e1 hp) (fun i acc => acc = (List.replicate i true).map V.bl) (σ0 := [some (.ref p), none]) rfl (by rw [List.length_map, hlen]; omega) rfl ?_ ?_
  · intro i acc x H2 Q1 Q0 hi hacc e2 hx k1 k0
    rw [List.getElem?_map] at hx
    obtain ⟨a, ha, rfl⟩ := Option.map_eq_some_iff.mp hx
    obtain ⟨r, hr, hIr⟩ := RsAt.get (RsAt.ex (e1.trans e2) hR) ha
    obtain ⟨dx, pb, pu, g1, -⟩ := rule_facts hIr
    walk_at "rd"
    refine ⟨rfl, ?_⟩
    walk_at "rd"
    refine g_isi (.own _) (rule_ty R g1) R.self ?_
    refine k1 _ _ (Ex.refl _) ?_
    rw [hacc, List.replicate_succ', List.map_append]; rfl
  · intro D H2 ys nD e2 hys _ hD
    subst hys
    walk_at "rd"
    refine g_all (sq_l hD) ?_
    rw [show (List.replicate (as.map V.ref).length true).all id = true by simp]
    walk_at "rd"
    have e12 := e1.trans e2
    refine ⟨p, Z.Desk, as, rs, [], W, rfl, SqA.ex e12 hp, RsAt.ex e12 hR, .inr (hM _), hW1, by simp, by omega, by omega, by simp, fun ys r H3 e3 h3 nd hm _ => ?_⟩
    walk_at "rd"
    have hle : ys.length ≤ W.length := nodup_le nd fun z hz => hW1 z (((hm z).mp hz).elim (fun k => by cases k) id)
    have := q H3 (e12.trans e3)
    rw [show decide (((ys.map V.str).length : Int) ≤ 24) = true from decide_eq_true (by rw [List.length_map]; omega)]
    exact this
theorem rd_wanted_base {vs : List V} {H : Hp} {Q : VK} {E : XK} (h : sp_wanted_base K Z vs H Q E) : t_wanted_base K Z { nx := fun _ H' => Q .non H', rt := Q } (start ["thing"] vs) H := by
  obtain ⟨p, as, rs, W, rfl, hp, hR, hl, hW1, hW2, q⟩ := h
  show t_wanted_base K Z _ [some (.ref p)] H
  unfold t_wanted_base
  walk_at "rd"
  refine ⟨p, as, rs, W, rfl, hp, hR, hl, hW1, hW2, fun H1 e1 => ?_⟩
  walk_at "rd"
  refine c_f ?_
  walk_at "rd"
  exact g_listS (SqA.ex e1 hp) fun r H2 n2 e2 h2 => q r H2 (e1.trans e2) h2
theorem rd_wanted_plain {vs : List V} {H : Hp} {Q : VK} {E : XK} (R : RuleC K Z.Rule) (h : sp_wanted_plain K Z vs H Q E) : t_wanted_plain K Z { nx := fun _ H' => Q .non H', rt := Q } (start ["rules", "base", "rule"] vs) H := by
  obtain ⟨p, as, rs, W, rfl, hp, hR, hl, hW1, hW2, q⟩ := h
  show t_wanted_plain K Z _ [some (.ref p), none, none] H
  unfold t_wanted_plain
  have hlen := RsAt.len hR
  walk_at "rd"
  refine ⟨p, as, rs, W, rfl, hp, hR, hl, hW1, hW2, fun b H1 e1 h1 => ?_⟩
  walk_at "rd"
  refine c_iL (sq_l h1) ?_
  refine c_lc walk_list (fun i acc => acc = (List.replicate i false).map V.bl) (σ0 := [some (.ref p), some (.ref b), none]) rfl (by rw [List.length_map, hlen]; omega) rfl (fun H' e' => sq_l (e' _ _ h1)) ?_ ?_
  · intro i acc x H2 H3 Q1 Q0 hi hacc e2 hy k1 k0
    obtain ⟨rfl, hx⟩ := hy
    rw [List.getElem?_map] at hx
    obtain ⟨a, ha, rfl⟩ := Option.map_eq_some_iff.mp hx
    obtain ⟨r, hr, hIr⟩ := RsAt.get (RsAt.ex (e1.trans e2) hR) ha
    obtain ⟨dx, pb, pu, g1, g2, g3, -⟩ := rule_facts hIr
    walk_at "rd"
    refine ⟨rfl, ?_⟩
    walk_at "rd"
    refine g_fld g1 R.cls R.nu rfl ?_
    walk_at "rd"
    refine c_tupE (by simp) (fun tp H4 n4 e4 h4 => ?_)
    refine g_ne_te (xs := []) (ex_t e4 g3) (sq_t h4) (by simp) ?_
    refine k1 _ _ e4 ?_
    rw [hacc, List.replicate_succ', List.map_append]; rfl
  · intro D H2 ys nD e2 hys _ hD
    subst hys
    walk_at "rd"
    refine g_any (sq_l hD) ?_
    rw [show (List.replicate (as.map V.ref).length false).any id = false by simp]
    walk_at "rd"
    exact q b H2 (e1.trans e2) (e2 _ _ h1)
theorem rd_wanted_beside {vs : List V} {H : Hp} {Q : VK} {E : XK} (h : sp_wanted_beside K Z vs H Q E) : t_wanted_beside K Z (.int 24) { nx := fun _ H' => Q .non H', rt := Q } (start ["thing", "rules", "most", "names"] vs) H := by
  obtain ⟨q0, p, as, rs, ss, W, rfl, hq, hp, hR, hl, hW1, hW2, hW3, nm, nd, q⟩ := h
  show t_wanted_beside K Z _ _ [some (.ref q0), some (.ref p), some (.int 24), none] H
  unfold t_wanted_beside
  have hs := nodup_le nd hW2
  walk_at "rd"
  refine ⟨q0, ss, rfl, hq, nm, nd, by omega, fun r H1 e1 h1 => ?_⟩
  walk_at "rd"
  refine ⟨p, r, as, rs, ss, W, rfl, SqA.ex e1 hp, RsAt.ex e1 hR, .inr h1, hW1, hW2, by omega, by omega, by omega, fun ys r2 H2 e2 h2 nd2 hm _ => ?_⟩
  walk_at "rd"
  have hle : ys.length ≤ W.length := nodup_le nd2 fun z hz => ((hm z).mp hz).elim (hW2 z) (hW1 z)
  refine c_d (fun k => by rw [List.length_map] at k; omega) (fun _ => ?_)
  walk_at "rd"
  exact q r H2 (e1.trans e2) (ex_t e2 h1)
theorem rd_wanted {vs : List V} {H : Hp} {Q : VK} {E : XK} (h : sp_wanted K Z vs H Q E) : t_wanted K Z { nx := fun _ H' => Q .non H', rt := Q } (start ["rules", "grounds", "base"] vs) H := by
  obtain ⟨p, q0, as, rs, ss, W, rfl, hp, hR, hq, hl, hW1, hW2, hW3, nm, nd, q⟩ := h
  show t_wanted K Z _ [some (.ref p), some (.ref q0), none] H
  unfold t_wanted
  walk_at "rd"
  refine ⟨p, as, rs, W, rfl, hp, hR, hl, hW1, hW3, fun b H1 e1 h1 => ?_⟩
  walk_at "rd"
  refine ⟨q0, b, as, rs, ss, W, rfl, SqA.ex e1 hq, .inl (sq_l h1), RsAt.ex e1 hR, hl, hW1, hW2, hW3, nm, nd, fun g H2 e2 h2 => ?_⟩
  walk_at "rd"
  refine c_tupE (by simp) (fun t H3 n3 e3 h3 => ?_)
  exact q t b g H3 (e1.trans (e2.trans e3)) h3 (e3 _ _ (e2 _ _ h1)) (ex_t e3 h2)

end
end K11

set_option maxHeartbeats 800000
namespace K11
open PySem PySem.Spec PyProof.Rows L2 Evl Gx
local macro_rules | `(tactic| walk_at "get") => `(tactic| first
  | assumption
  | exact upd_same
  | ((with_reducible refine sq_l ?_); walk_at "get")
  | ((with_reducible refine sq_t ?_); walk_at "get")
  | ((with_reducible refine ex_l (by assumption) ?_); walk_at "get")
  | ((with_reducible refine ex_t (by assumption) ?_); walk_at "get")
  | ((with_reducible refine Draw.ex (by assumption) ?_); walk_at "get")
  | ((with_reducible refine Arg.ex (by assumption) ?_); walk_at "get")
  | ((with_reducible refine IsRule.ex (by assumption) ?_); walk_at "get")
  | ((with_reducible refine Thing.ex (by assumption) ?_); walk_at "get")
  | ((with_reducible refine exget (by assumption) ?_); walk_at "get"))
local macro_rules | `(tactic| walk_at "rd1") => `(tactic| first
  | (with_reducible refine c_seq ?_)
  | (with_reducible refine c_next ?_)
  | (with_reducible refine c_drop ?_)
  | (with_reducible refine c_ret ?_)
  | (with_reducible refine c_retN ?_)
  | (with_reducible refine c_ifs ?_)
  | (with_reducible refine c_c ?_)
  | (with_reducible refine c_op ?_)
  | (with_reducible refine c_un ?_)
  | (with_reducible refine c_cb ?_)
  | (with_reducible refine c_nil ?_)
  | (with_reducible refine c_cons ?_)
  | (with_reducible refine c_call ?_)
  | (with_reducible refine c_callK ?_)
  | (with_reducible refine c_test ?_)
  | (with_reducible refine c_tB ?_)
  | (with_reducible refine c_and ?_)
  | (with_reducible refine c_or ?_)
  | (with_reducible refine c_not ?_)
  | (with_reducible refine c_andV ?_)
  | (with_reducible refine c_orV ?_)
  | (with_reducible refine c_notV ?_)
  | (with_reducible refine c_if ?_)
  | (with_reducible refine c_chain ?_)
  | (with_reducible refine c_sl ?_)
  | (with_reducible refine c_nop ?_)
  | (with_reducible refine c_part ?_)
  | (with_reducible refine c_lst ?_)
  | (with_reducible refine c_tup ?_)
  | (with_reducible refine c_bl ?_)
  | (with_reducible refine c_blP ?_)
  | (with_reducible refine c_parti ?_)
  | (with_reducible refine c_t ?_)
  | (with_reducible refine c_f ?_)
  | (with_reducible refine g_add_i ?_)
  | (with_reducible refine g_sub_i ?_)
  | (with_reducible refine g_neg ?_)
  | (with_reducible refine g_eq_i ?_)
  | (with_reducible refine g_eq_st ?_)
  | (with_reducible refine g_eq_b ?_)
  | (with_reducible refine g_ne_i ?_)
  | (with_reducible refine g_ne_st ?_)
  | (with_reducible refine g_ne_b ?_)
  | (with_reducible refine g_lt_i ?_)
  | (with_reducible refine g_le_i ?_)
  | (with_reducible refine g_gt_i ?_)
  | (with_reducible refine g_ge_i ?_)
  | (with_reducible refine g_le_s ?_)
  | (with_reducible refine g_in_s ?_)
  | (with_reducible refine g_ni_s ?_)
  | (with_reducible refine c_brk ?_)
  | (with_reducible refine c_cont ?_)
  | (with_reducible refine c_for ?_)
  | (with_reducible refine c_lcW ?_)
  | (with_reducible refine c_iList ?_)
  | (with_reducible refine c_iTup ?_)
  | (with_reducible refine c_iStr ?_)
  | (with_reducible refine c_iRng1 ?_)
  | (with_reducible refine c_iS ?_)
  | (with_reducible refine c_yes ?_)
  | (with_reducible refine c_sub ?_)
  | (with_reducible refine c_pair ?_)
  | (with_reducible refine c_pnil ?_)
  | (with_reducible refine c_isn ?_)
  | (with_reducible refine c_notn ?_)
  | (with_reducible refine c_sfld ?_)
  | (with_reducible refine c_fld ?_)
  | (with_reducible refine c_raise ?_)
  | (with_reducible refine c_meth0 ?_)
  | (with_reducible refine c_iEnum ?_)
  | (with_reducible refine c_bm ?_)
  | (with_reducible refine c_bm0 ?_)
  | (with_reducible refine c_mk ?_)
  | (with_reducible refine c_try ?_)
  | (with_reducible refine c_iEnumT ?_)
  | (with_reducible refine c_callKS ?_)
  | (with_reducible refine c_tryO ?_)
  | (with_reducible refine c_repl ?_)
  | (with_reducible refine c_fmt ?_)
  | (with_reducible refine c_fs ?_)
  | (with_reducible refine c_jn ?_)
  | (with_reducible refine c_jc ?_)
  | (with_reducible refine c_tru ?_)
  | (with_reducible refine c_m1 ?_)
  | (with_reducible refine c_dget ?_)
  | (with_reducible refine c_din ?_)
  | (with_reducible refine c_dni ?_)
  | (with_reducible refine c_dput ?_)
  | (with_reducible refine c_star ?_)
  | (with_reducible refine c_while ?_)
  | (with_reducible refine c_dcW ?_)
  | (with_reducible refine c_var0 ?_)
  | (with_reducible refine c_asg0 ?_)
  | (with_reducible refine c_nam0 ?_)
  | (with_reducible refine c_var1 ?_)
  | (with_reducible refine c_asg1 ?_)
  | (with_reducible refine c_nam1 ?_)
  | (with_reducible refine c_var2 ?_)
  | (with_reducible refine c_asg2 ?_)
  | (with_reducible refine c_nam2 ?_)
  | (with_reducible refine c_var3 ?_)
  | (with_reducible refine c_asg3 ?_)
  | (with_reducible refine c_nam3 ?_)
  | (with_reducible refine c_var4 ?_)
  | (with_reducible refine c_asg4 ?_)
  | (with_reducible refine c_nam4 ?_)
  | (with_reducible refine c_var5 ?_)
  | (with_reducible refine c_asg5 ?_)
  | (with_reducible refine c_nam5 ?_)
  | (with_reducible refine c_var6 ?_)
  | (with_reducible refine c_asg6 ?_)
  | (with_reducible refine c_nam6 ?_)
  | (with_reducible refine c_var7 ?_)
  | (with_reducible refine c_asg7 ?_)
  | (with_reducible refine c_nam7 ?_)
  | (with_reducible refine c_var8 ?_)
  | (with_reducible refine c_asg8 ?_)
  | (with_reducible refine c_nam8 ?_)
  | (with_reducible refine c_var9 ?_)
  | (with_reducible refine c_asg9 ?_)
  | (with_reducible refine c_nam9 ?_)
  | (with_reducible refine c_var10 ?_)
  | (with_reducible refine c_asg10 ?_)
  | (with_reducible refine c_nam10 ?_)
  | (with_reducible refine c_var11 ?_)
  | (with_reducible refine c_asg11 ?_)
  | (with_reducible refine c_nam11 ?_)
  | (with_reducible refine c_var12 ?_)
  | (with_reducible refine c_asg12 ?_)
  | (with_reducible refine c_nam12 ?_)
  | (with_reducible refine c_var13 ?_)
  | (with_reducible refine c_asg13 ?_)
  | (with_reducible refine c_nam13 ?_)
  | (with_reducible refine c_var14 ?_)
  | (with_reducible refine c_asg14 ?_)
  | (with_reducible refine c_nam14 ?_)
  | (with_reducible refine c_var15 ?_)
  | (with_reducible refine c_asg15 ?_)
  | (with_reducible refine c_nam15 ?_)
  | (with_reducible refine c_asgG ?_)
  | ((with_reducible refine g_ix_l (xs := ?gxa) (v := ?gxb) ?gx1 ?gx2 ?gx3); (case gx1 => walk_at "get"); (case gx2 => rfl))
  | ((with_reducible refine g_len_l (xs := ?gxa) (.inl ?gx1) ?gx3); (case gx1 => walk_at "get"))
  | ((with_reducible refine g_mod_i ?gx1 ?gx3); (case gx1 => omega)))
local macro_rules | `(tactic| walk_at "rd") => `(tactic| repeat walk_at "rd1")
local macro_rules | `(tactic| walk_at "rs1") => `(tactic| first
  | (with_reducible refine c_next ?_)
  | (with_reducible refine c_drop ?_)
  | (with_reducible refine c_ret ?_)
  | (with_reducible refine c_retN ?_)
  | (with_reducible refine c_ifs ?_)
  | (with_reducible refine c_c ?_)
  | (with_reducible refine c_op ?_)
  | (with_reducible refine c_un ?_)
  | (with_reducible refine c_cb ?_)
  | (with_reducible refine c_nil ?_)
  | (with_reducible refine c_cons ?_)
  | (with_reducible refine c_call ?_)
  | (with_reducible refine c_callK ?_)
  | (with_reducible refine c_test ?_)
  | (with_reducible refine c_tB ?_)
  | (with_reducible refine c_and ?_)
  | (with_reducible refine c_or ?_)
  | (with_reducible refine c_not ?_)
  | (with_reducible refine c_andV ?_)
  | (with_reducible refine c_orV ?_)
  | (with_reducible refine c_notV ?_)
  | (with_reducible refine c_chain ?_)
  | (with_reducible refine c_sl ?_)
  | (with_reducible refine c_nop ?_)
  | (with_reducible refine c_part ?_)
  | (with_reducible refine c_lst ?_)
  | (with_reducible refine c_tup ?_)
  | (with_reducible refine c_bl ?_)
  | (with_reducible refine c_blP ?_)
  | (with_reducible refine c_parti ?_)
  | (with_reducible refine c_t ?_)
  | (with_reducible refine c_f ?_)
  | (with_reducible refine g_add_i ?_)
  | (with_reducible refine g_sub_i ?_)
  | (with_reducible refine g_neg ?_)
  | (with_reducible refine g_eq_i ?_)
  | (with_reducible refine g_eq_st ?_)
  | (with_reducible refine g_eq_b ?_)
  | (with_reducible refine g_ne_i ?_)
  | (with_reducible refine g_ne_st ?_)
  | (with_reducible refine g_ne_b ?_)
  | (with_reducible refine g_lt_i ?_)
  | (with_reducible refine g_le_i ?_)
  | (with_reducible refine g_gt_i ?_)
  | (with_reducible refine g_ge_i ?_)
  | (with_reducible refine g_le_s ?_)
  | (with_reducible refine g_in_s ?_)
  | (with_reducible refine g_ni_s ?_)
  | (with_reducible refine c_brk ?_)
  | (with_reducible refine c_cont ?_)
  | (with_reducible refine c_for ?_)
  | (with_reducible refine c_lcW ?_)
  | (with_reducible refine c_iList ?_)
  | (with_reducible refine c_iTup ?_)
  | (with_reducible refine c_iStr ?_)
  | (with_reducible refine c_iRng1 ?_)
  | (with_reducible refine c_iS ?_)
  | (with_reducible refine c_yes ?_)
  | (with_reducible refine c_sub ?_)
  | (with_reducible refine c_pair ?_)
  | (with_reducible refine c_pnil ?_)
  | (with_reducible refine c_isn ?_)
  | (with_reducible refine c_notn ?_)
  | (with_reducible refine c_sfld ?_)
  | (with_reducible refine c_fld ?_)
  | (with_reducible refine c_raise ?_)
  | (with_reducible refine c_meth0 ?_)
  | (with_reducible refine c_iEnum ?_)
  | (with_reducible refine c_bm ?_)
  | (with_reducible refine c_bm0 ?_)
  | (with_reducible refine c_mk ?_)
  | (with_reducible refine c_try ?_)
  | (with_reducible refine c_iEnumT ?_)
  | (with_reducible refine c_callKS ?_)
  | (with_reducible refine c_tryO ?_)
  | (with_reducible refine c_repl ?_)
  | (with_reducible refine c_fmt ?_)
  | (with_reducible refine c_fs ?_)
  | (with_reducible refine c_jn ?_)
  | (with_reducible refine c_jc ?_)
  | (with_reducible refine c_tru ?_)
  | (with_reducible refine c_m1 ?_)
  | (with_reducible refine c_dget ?_)
  | (with_reducible refine c_din ?_)
  | (with_reducible refine c_dni ?_)
  | (with_reducible refine c_dput ?_)
  | (with_reducible refine c_star ?_)
  | (with_reducible refine c_while ?_)
  | (with_reducible refine c_dcW ?_)
  | (with_reducible refine c_var0 ?_)
  | (with_reducible refine c_asg0 ?_)
  | (with_reducible refine c_nam0 ?_)
  | (with_reducible refine c_var1 ?_)
  | (with_reducible refine c_asg1 ?_)
  | (with_reducible refine c_nam1 ?_)
  | (with_reducible refine c_var2 ?_)
  | (with_reducible refine c_asg2 ?_)
  | (with_reducible refine c_nam2 ?_)
  | (with_reducible refine c_var3 ?_)
  | (with_reducible refine c_asg3 ?_)
  | (with_reducible refine c_nam3 ?_)
  | (with_reducible refine c_var4 ?_)
  | (with_reducible refine c_asg4 ?_)
  | (with_reducible refine c_nam4 ?_)
  | (with_reducible refine c_var5 ?_)
  | (with_reducible refine c_asg5 ?_)
  | (with_reducible refine c_nam5 ?_)
  | (with_reducible refine c_var6 ?_)
  | (with_reducible refine c_asg6 ?_)
  | (with_reducible refine c_nam6 ?_)
  | (with_reducible refine c_var7 ?_)
  | (with_reducible refine c_asg7 ?_)
  | (with_reducible refine c_nam7 ?_)
  | (with_reducible refine c_var8 ?_)
  | (with_reducible refine c_asg8 ?_)
  | (with_reducible refine c_nam8 ?_)
  | (with_reducible refine c_var9 ?_)
  | (with_reducible refine c_asg9 ?_)
  | (with_reducible refine c_nam9 ?_)
  | (with_reducible refine c_var10 ?_)
  | (with_reducible refine c_asg10 ?_)
  | (with_reducible refine c_nam10 ?_)
  | (with_reducible refine c_var11 ?_)
  | (with_reducible refine c_asg11 ?_)
  | (with_reducible refine c_nam11 ?_)
  | (with_reducible refine c_var12 ?_)
  | (with_reducible refine c_asg12 ?_)
  | (with_reducible refine c_nam12 ?_)
  | (with_reducible refine c_var13 ?_)
  | (with_reducible refine c_asg13 ?_)
  | (with_reducible refine c_nam13 ?_)
  | (with_reducible refine c_var14 ?_)
  | (with_reducible refine c_asg14 ?_)
  | (with_reducible refine c_nam14 ?_)
  | (with_reducible refine c_var15 ?_)
  | (with_reducible refine c_asg15 ?_)
  | (with_reducible refine c_nam15 ?_)
  | (with_reducible refine c_asgG ?_)
  | ((with_reducible refine g_ix_l (xs := ?gxa) (v := ?gxb) ?gx1 ?gx2 ?gx3); (case gx1 => walk_at "get"); (case gx2 => rfl))
  | ((with_reducible refine g_len_l (xs := ?gxa) (.inl ?gx1) ?gx3); (case gx1 => walk_at "get"))
  | ((with_reducible refine g_mod_i ?gx1 ?gx3); (case gx1 => omega)))
local macro_rules | `(tactic| walk_at "rs") => `(tactic| repeat walk_at "rs1")
section
variable {P : Program} {w : World} {K : PySem.W.Frag} {mg : Str → Option Value} {base : Heap} {Z : Ads}
section
variable {c : Addr} {a r t m n : Int}
theorem gvC : valV (sttL c a r t m) (kS "cells") = some (.ref c) := by rfl
theorem gvA : valV (sttL c a r t m) (kS "at") = some (.int a) := by rfl
theorem gvR : valV (sttL c a r t m) (kS "rest") = some (.int r) := by rfl
theorem gvT : valV (sttL c a r t m) (kS "turn") = some (.int t) := by rfl
theorem gvM : valV (sttL c a r t m) (kS "more") = some (.int m) := by rfl
theorem gpA : putK (sttL c a r t m) (kS "at") (.int n) = sttL c n r t m := by rfl
theorem gpR : putK (sttL c a r t m) (kS "rest") (.int n) = sttL c a n t m := by rfl
theorem gpT : putK (sttL c a r t m) (kS "turn") (.int n) = sttL c a r n m := by rfl
theorem gpM : putK (sttL c a r t m) (kS "more") (.int n) = sttL c a r t n := by rfl
end
theorem rd__law_begun {vs : List V} {H : Hp} {Q : VK} {E : XK} (h : sp_beg0 K vs H Q E) : t__law_begun K Z { nx := fun _ H' => Q .non H', rt := Q } (start ["script"] vs) H := by
  obtain ⟨c, ns, rfl, hs, hn, q⟩ := h
  show t__law_begun K Z _ [some (.ref c)] H
  unfold t__law_begun
  walk_at "rd"
  refine c_disp (fun p H0 np e0 h0 => ?_)
  walk_at "rd"
  refine ⟨h0, sttL c 0 0 0 17, rfl, by show 5 ≤ 15; omega, ?_⟩
  rw [show mergeK [] (sttL c 0 0 0 17) = sttL c 0 0 0 17 by rfl]
  exact q p _ np (Ex.mut e0 np) upd_same
theorem rd__law_kept {vs : List V} {H : Hp} {Q : VK} {E : XK} (h : sp__law_kept K vs H Q E) : t__law_kept K Z { nx := fun _ H' => Q .non H', rt := Q } (start [] vs) H := by
  obtain ⟨rfl, q⟩ := h
  show t__law_kept K Z _ [] H
  unfold t__law_kept
  walk_at "rd"
  exact c_lstE (by simp) fun p H1 n1 e1 h1 => q p H1 n1 e1 h1
theorem int_at {ns : List Int} {a : Int} (h0 : 0 ≤ a) (h1 : a < (ns.length : Int)) : ∃ n, atI (ns.map V.int) a = some (.int n) := by
  obtain ⟨k, v, ek, hk, -, hv⟩ := atI_in (xs := ns.map V.int) h0 (by rw [List.length_map]; exact h1)
  rw [List.getElem?_map] at hk
  obtain ⟨n, hn, rfl⟩ := Option.map_eq_some_iff.mp hk
  exact ⟨n, hv⟩
theorem rd__law_take {vs : List V} {H : Hp} {Q : VK} {E : XK} (h : sp_tak0 K vs H Q E) : t__law_take K Z { nx := fun _ H' => Q .non H', rt := Q } (start ["state", "many", "cells", "found", "cell"] vs) H := by
  obtain ⟨st, c, many, a, r, t, m, ns, rfl, hst, hc, hn, a0, r0, t0, m0, m1, s0, s1, q⟩ := h
  show t__law_take K Z _ [some (.ref st), some (.int many), none, none, none] H
  unfold t__law_take
  walk_at "rd"
  refine g_dget hst gvC ?_
  walk_at "rd"
  refine ⟨fun μ σ H' => ∃ a r : Int, σ = [some (.ref st), some (.int many), some (.ref c), none, none] ∧ Exb st H H' ∧ H' st = some (.dK (sttL c a r t m)) ∧ 0 ≤ a ∧ 0 ≤ r ∧ μ = ((ns.length : Int) - a).toNat, ⟨_, a, r, rfl, fun _ _ _ h => h, hst, a0, r0, rfl⟩, ?_⟩
  rintro μ σ H1 ⟨a, r, rfl, e1, h1, a0, r0, rfl⟩
  have hc1 : SqL K H1 c (ns.map V.int) := sqL_no e1 hst hc
  -- what comes behind the loop
  have behind : tSeq (tIfS (tTest (tOp gGt (tDGet (tVar 0) (tC (.str "rest"))) (tC (.int 1)))) (tSeq (tAsg (tOp (rI (fun _ j => 0 < j) fun i j => .int (i % j)) (tDGet (tVar 0) (tC (.str "rest"))) (tVar 1)) (gName 3))
    (tSeq (sDPut (tVar 0) (tC (.str "rest")) (tOp (rI CDivW fun i j => .int (i / j)) (tDGet (tVar 0) (tC (.str "rest"))) (tVar 1)))
    (tRet (tVar 3)))) tNext)
    (tSeq (tAsg (tC (.int 0)) (gName 4))
    (tSeq (tIfS (tTest (tOp gGt (tCB (gLen K) (tCons (tVar 2) tNil)) (tC (.int 0)))) (tAsg (tOp (rIx K) (tVar 2) (tOp (rI (fun _ j => 0 < j) fun i j => .int (i % j)) (tDGet (tVar 0) (tC (.str "turn"))) (tCB (gLen K) (tCons (tVar 2) tNil)))) (gName 4)) tNext)
    (tSeq (sDPut (tVar 0) (tC (.str "turn")) (tOp (gAdd K) (tDGet (tVar 0) (tC (.str "turn"))) (tC (.int 1))))
    (tSeq (sDPut (tVar 0) (tC (.str "more")) (tOp (rI (fun _ j => 0 < j) fun i j => .int (i % j)) (tOp (gAdd K) (tOp (gAdd K) (tOp gMul (tDGet (tVar 0) (tC (.str "more"))) (tC (.int 48271))) (tVar 4)) (tDGet (tVar 0) (tC (.str "turn")))) (tC (.int 2147483647))))
    (tRet (tOp (rI (fun _ j => 0 < j) fun i j => .int (i % j)) (tOp (rI (fun _ j => 0 < j) fun i j => .int (i % j)) (tOp (gAdd K) (tOp gMul (tDGet (tVar 0) (tC (.str "more"))) (tDGet (tVar 0) (tC (.str "more")))) (tOp gMul (tC (.int 16807)) (tDGet (tVar 0) (tC (.str "more"))))) (tC (.int 2147483629))) (tVar 1)))))))
    { nx := fun _ H' => Q .non H', rt := Q } [some (.ref st), some (.int many), some (.ref c), none, none] H1 := by
    have mod := fun x : Int => And.intro (Int.emod_nonneg x (show many ≠ 0 by omega)) (Int.emod_lt_of_pos x s0)
    walk_at "rd"
    refine g_dget h1 gvR ?_
    walk_at "rd"
    refine c_d (fun hr => ?_) (fun hr => ?_)
    · walk_at "rd"
      refine g_dget h1 gvR ?_
      walk_at "rd"
      refine g_dget h1 gvR ?_
      walk_at "rd"
      refine g_fdiv_i (wide_div (b := 65) s0 (by omega) (by omega) (by omega)) ?_
      walk_at "rd"
      refine g_dput h1 (by show 5 < 100000; omega) (fun H2 e2 h2 => ?_)
      rw [gpR] at h2
      walk_at "rd"
      exact q _ H2 a (r / many) t m (mod r).1 (mod r).2 h2 a0 (Int.ediv_nonneg r0 (by omega)) t0 m0 m1 (fun x o hx ho => e2 _ _ hx (e1 _ _ hx ho))
    · walk_at "rd"
      have rest2 : ∀ cell : Int, tSeq (sDPut (tVar 0) (tC (.str "turn")) (tOp (gAdd K) (tDGet (tVar 0) (tC (.str "turn"))) (tC (.int 1))))
          (tSeq (sDPut (tVar 0) (tC (.str "more")) (tOp (rI (fun _ j => 0 < j) fun i j => .int (i % j)) (tOp (gAdd K) (tOp (gAdd K) (tOp gMul (tDGet (tVar 0) (tC (.str "more"))) (tC (.int 48271))) (tVar 4)) (tDGet (tVar 0) (tC (.str "turn")))) (tC (.int 2147483647))))
          (tRet (tOp (rI (fun _ j => 0 < j) fun i j => .int (i % j)) (tOp (rI (fun _ j => 0 < j) fun i j => .int (i % j)) (tOp (gAdd K) (tOp gMul (tDGet (tVar 0) (tC (.str "more"))) (tDGet (tVar 0) (tC (.str "more")))) (tOp gMul (tC (.int 16807)) (tDGet (tVar 0) (tC (.str "more"))))) (tC (.int 2147483629))) (tVar 1))))
          { nx := fun _ H' => Q .non H', rt := Q } [some (.ref st), some (.int many), some (.ref c), none, some (.int cell)] H1 := by
        intro cell
        walk_at "rd"
        refine g_dget h1 gvT ?_
        walk_at "rd"
        refine g_dput h1 (by show 5 < 100000; omega) (fun H2 e2 h2 => ?_)
        rw [gpT] at h2
        walk_at "rd"
        refine g_dget h2 gvM ?_
        walk_at "rd"
        refine g_mul_i (wide_mul (a := 40) (b := 40) (by omega) (by omega) (by omega) (by omega) (by omega)) ?_
        walk_at "rd"
        refine g_dget h2 gvT ?_
        walk_at "rd"
        refine g_dput h2 (by show 5 < 100000; omega) (fun H3 e3 h3 => ?_)
        rw [gpM] at h3
        have b0 := Int.emod_nonneg (m * 48271 + cell + (t + 1)) (b := 2147483647) (by omega)
        have b1 := Int.emod_lt_of_pos (m * 48271 + cell + (t + 1)) (b := 2147483647) (by omega)
        walk_at "rd"
        refine g_dget h3 gvM ?_
        walk_at "rd"
        refine g_dget h3 gvM ?_
        refine g_mul_i (wide_mul (a := 40) (b := 40) (by omega) (by omega) (by omega) (by omega) (by omega)) ?_
        walk_at "rd"
        refine g_dget h3 gvM ?_
        refine g_mul_i (wide_mul (a := 40) (b := 40) (by omega) (by omega) (by omega) (by omega) (by omega)) ?_
        walk_at "rd"
        exact q _ H3 a r (t + 1) _ (mod _).1 (mod _).2 h3 a0 r0 (by omega) b0 b1 (fun x o hx ho => e3 _ _ hx (e2 _ _ hx (e1 _ _ hx ho)))
      refine c_d (fun hl => ?_) (fun hl => ?_)
      · walk_at "rs"
        refine g_dget h1 gvT ?_
        walk_at "rs"
        try (refine g_mod_i (by omega) ?_)
        try (walk_at "rs")
        obtain ⟨n, hat⟩ := int_at (ns := ns) (a := t % ((ns.map V.int).length : Int)) (Int.emod_nonneg _ (by omega)) (by have := Int.emod_lt_of_pos t (b := ((ns.map V.int).length : Int)) (by omega); rw [List.length_map] at this ⊢; exact this)
        refine g_ix_l hc1 hat ?_
        exact rest2 n
      · exact rest2 0
  walk_at "rd"
  refine g_dget h1 gvR ?_
  walk_at "rd"
  refine c_d (fun hr => ?_) (fun hr => ?_)
  · walk_at "rd"
    refine g_dget h1 gvA ?_
    walk_at "rd"
    refine c_d (fun ha => ?_) (fun ha => ?_)
    · rw [List.length_map] at ha
      refine ⟨fun σ' H' => ∃ m', m' < ((ns.length : Int) - a).toNat ∧ ∃ a r : Int, σ' = [some (.ref st), some (.int many), some (.ref c), none, none] ∧ Exb st H H' ∧ H' st = some (.dK (sttL c a r t m)) ∧ 0 ≤ a ∧ 0 ≤ r ∧ m' = ((ns.length : Int) - a).toNat, fun σ' H' h => h, ?_⟩
      obtain ⟨n, hat⟩ := int_at a0 ha
      have again : ∀ r' H2, 0 ≤ r' → Exb st H H2 → H2 st = some (.dK (sttL c a r' t m)) → sDPut (tVar 0) (tC (.str "at")) (tOp (gAdd K) (tDGet (tVar 0) (tC (.str "at"))) (tC (.int 1)))
          { nx := fun σ' H' => ∃ m', m' < ((ns.length : Int) - a).toNat ∧ ∃ a r : Int, σ' = [some (.ref st), some (.int many), some (.ref c), none, none] ∧ Exb st H H' ∧ H' st = some (.dK (sttL c a r t m)) ∧ 0 ≤ a ∧ 0 ≤ r ∧ m' = ((ns.length : Int) - a).toNat, rt := Q } [some (.ref st), some (.int many), some (.ref c), none, none] H2 := by
        intro r' H2 r0' e2 h2
        walk_at "rd"
        refine g_dget h2 gvA ?_
        walk_at "rd"
        refine g_dput h2 (by show 5 < 100000; omega) (fun H3 e3 h3 => ?_)
        rw [gpA] at h3
        exact ⟨((ns.length : Int) - (a + 1)).toNat, by omega, a + 1, r', rfl, fun x o hx ho => e3 _ _ hx (e2 _ _ hx ho), h3, by omega, r0', rfl⟩
      walk_at "rd"
      refine g_dget h1 gvA ?_
      refine g_ix_l hc1 hat ?_
      walk_at "rd"
      refine g_pow_i (by refine ⟨by omega, by omega, by decide⟩) ?_
      walk_at "rd"
      refine c_d (fun hbig => ?_) (fun hsm => ?_)
      · walk_at "rd"
        refine g_dget h1 gvA ?_
        refine g_ix_l hc1 hat ?_
        walk_at "rd"
        refine g_dput h1 (by show 5 < 100000; omega) (fun H2 e2 h2 => ?_)
        rw [gpR] at h2
        exact again n H2 (by have : (10 : Int) ^ (18 : Int).toNat ≤ n := hbig; have h10 : (0 : Int) ≤ 10 ^ (18 : Int).toNat := by decide
                             omega) (fun x o hx ho => e2 _ _ hx (e1 _ _ hx ho)) h2
      · exact again r H1 r0 e1 h1
    · first | exact behind | exact c_f behind
  · first | exact behind | exact c_f behind

end
end K11

set_option maxHeartbeats 800000
namespace K11
open PySem PySem.Spec PyProof.Rows L2 Evl Gx
local macro_rules | `(tactic| walk_at "get") => `(tactic| first
  | assumption
  | exact upd_same
  | ((with_reducible refine sq_l ?_); walk_at "get")
  | ((with_reducible refine sq_t ?_); walk_at "get")
  | ((with_reducible refine ex_l (by assumption) ?_); walk_at "get")
  | ((with_reducible refine ex_t (by assumption) ?_); walk_at "get")
  | ((with_reducible refine Draw.ex (by assumption) ?_); walk_at "get")
  | ((with_reducible refine Arg.ex (by assumption) ?_); walk_at "get")
  | ((with_reducible refine IsRule.ex (by assumption) ?_); walk_at "get")
  | ((with_reducible refine Thing.ex (by assumption) ?_); walk_at "get")
  | ((with_reducible refine exget (by assumption) ?_); walk_at "get"))
local macro_rules | `(tactic| walk_at "rd1") => `(tactic| first
  | (with_reducible refine c_seq ?_)
  | (with_reducible refine c_next ?_)
  | (with_reducible refine c_drop ?_)
  | (with_reducible refine c_ret ?_)
  | (with_reducible refine c_retN ?_)
  | (with_reducible refine c_ifs ?_)
  | (with_reducible refine c_c ?_)
  | (with_reducible refine c_op ?_)
  | (with_reducible refine c_un ?_)
  | (with_reducible refine c_cb ?_)
  | (with_reducible refine c_nil ?_)
  | (with_reducible refine c_cons ?_)
  | (with_reducible refine c_call ?_)
  | (with_reducible refine c_callK ?_)
  | (with_reducible refine c_test ?_)
  | (with_reducible refine c_tB ?_)
  | (with_reducible refine c_and ?_)
  | (with_reducible refine c_or ?_)
  | (with_reducible refine c_not ?_)
  | (with_reducible refine c_andV ?_)
  | (with_reducible refine c_orV ?_)
  | (with_reducible refine c_notV ?_)
  | (with_reducible refine c_if ?_)
  | (with_reducible refine c_chain ?_)
  | (with_reducible refine c_sl ?_)
  | (with_reducible refine c_nop ?_)
  | (with_reducible refine c_part ?_)
  | (with_reducible refine c_lst ?_)
  | (with_reducible refine c_tup ?_)
  | (with_reducible refine c_bl ?_)
  | (with_reducible refine c_blP ?_)
  | (with_reducible refine c_parti ?_)
  | (with_reducible refine c_t ?_)
  | (with_reducible refine c_f ?_)
  | (with_reducible refine g_add_i ?_)
  | (with_reducible refine g_sub_i ?_)
  | (with_reducible refine g_neg ?_)
  | (with_reducible refine g_eq_i ?_)
  | (with_reducible refine g_eq_st ?_)
  | (with_reducible refine g_eq_b ?_)
  | (with_reducible refine g_ne_i ?_)
  | (with_reducible refine g_ne_st ?_)
  | (with_reducible refine g_ne_b ?_)
  | (with_reducible refine g_lt_i ?_)
  | (with_reducible refine g_le_i ?_)
  | (with_reducible refine g_gt_i ?_)
  | (with_reducible refine g_ge_i ?_)
  | (with_reducible refine g_le_s ?_)
  | (with_reducible refine g_in_s ?_)
  | (with_reducible refine g_ni_s ?_)
  | (with_reducible refine c_brk ?_)
  | (with_reducible refine c_cont ?_)
  | (with_reducible refine c_for ?_)
  | (with_reducible refine c_lcW ?_)
  | (with_reducible refine c_iList ?_)
  | (with_reducible refine c_iTup ?_)
  | (with_reducible refine c_iStr ?_)
  | (with_reducible refine c_iRng1 ?_)
  | (with_reducible refine c_iS ?_)
  | (with_reducible refine c_yes ?_)
  | (with_reducible refine c_sub ?_)
  | (with_reducible refine c_pair ?_)
  | (with_reducible refine c_pnil ?_)
  | (with_reducible refine c_isn ?_)
  | (with_reducible refine c_notn ?_)
  | (with_reducible refine c_sfld ?_)
  | (with_reducible refine c_fld ?_)
  | (with_reducible refine c_raise ?_)
  | (with_reducible refine c_meth0 ?_)
  | (with_reducible refine c_iEnum ?_)
  | (with_reducible refine c_bm ?_)
  | (with_reducible refine c_bm0 ?_)
  | (with_reducible refine c_mk ?_)
  | (with_reducible refine c_try ?_)
  | (with_reducible refine c_iEnumT ?_)
  | (with_reducible refine c_callKS ?_)
  | (with_reducible refine c_tryO ?_)
  | (with_reducible refine c_repl ?_)
  | (with_reducible refine c_fmt ?_)
  | (with_reducible refine c_fs ?_)
  | (with_reducible refine c_jn ?_)
  | (with_reducible refine c_jc ?_)
  | (with_reducible refine c_tru ?_)
  | (with_reducible refine c_m1 ?_)
  | (with_reducible refine c_dget ?_)
  | (with_reducible refine c_din ?_)
  | (with_reducible refine c_dni ?_)
  | (with_reducible refine c_dput ?_)
  | (with_reducible refine c_star ?_)
  | (with_reducible refine c_while ?_)
  | (with_reducible refine c_dcW ?_)
  | (with_reducible refine c_var0 ?_)
  | (with_reducible refine c_asg0 ?_)
  | (with_reducible refine c_nam0 ?_)
  | (with_reducible refine c_var1 ?_)
  | (with_reducible refine c_asg1 ?_)
  | (with_reducible refine c_nam1 ?_)
  | (with_reducible refine c_var2 ?_)
  | (with_reducible refine c_asg2 ?_)
  | (with_reducible refine c_nam2 ?_)
  | (with_reducible refine c_var3 ?_)
  | (with_reducible refine c_asg3 ?_)
  | (with_reducible refine c_nam3 ?_)
  | (with_reducible refine c_var4 ?_)
  | (with_reducible refine c_asg4 ?_)
  | (with_reducible refine c_nam4 ?_)
  | (with_reducible refine c_var5 ?_)
  | (with_reducible refine c_asg5 ?_)
  | (with_reducible refine c_nam5 ?_)
  | (with_reducible refine c_var6 ?_)
  | (with_reducible refine c_asg6 ?_)
  | (with_reducible refine c_nam6 ?_)
  | (with_reducible refine c_var7 ?_)
  | (with_reducible refine c_asg7 ?_)
  | (with_reducible refine c_nam7 ?_)
  | (with_reducible refine c_var8 ?_)
  | (with_reducible refine c_asg8 ?_)
  | (with_reducible refine c_nam8 ?_)
  | (with_reducible refine c_var9 ?_)
  | (with_reducible refine c_asg9 ?_)
  | (with_reducible refine c_nam9 ?_)
  | (with_reducible refine c_var10 ?_)
  | (with_reducible refine c_asg10 ?_)
  | (with_reducible refine c_nam10 ?_)
  | (with_reducible refine c_var11 ?_)
  | (with_reducible refine c_asg11 ?_)
  | (with_reducible refine c_nam11 ?_)
  | (with_reducible refine c_var12 ?_)
  | (with_reducible refine c_asg12 ?_)
  | (with_reducible refine c_nam12 ?_)
  | (with_reducible refine c_var13 ?_)
  | (with_reducible refine c_asg13 ?_)
  | (with_reducible refine c_nam13 ?_)
  | (with_reducible refine c_var14 ?_)
  | (with_reducible refine c_asg14 ?_)
  | (with_reducible refine c_nam14 ?_)
  | (with_reducible refine c_var15 ?_)
  | (with_reducible refine c_asg15 ?_)
  | (with_reducible refine c_nam15 ?_)
  | (with_reducible refine c_asgG ?_)
  | ((with_reducible refine g_ix_l (xs := ?gxa) (v := ?gxb) ?gx1 ?gx2 ?gx3); (case gx1 => walk_at "get"); (case gx2 => rfl))
  | ((with_reducible refine g_len_l (xs := ?gxa) (.inl ?gx1) ?gx3); (case gx1 => walk_at "get"))
  | ((with_reducible refine g_mod_i ?gx1 ?gx3); (case gx1 => omega)))
local macro_rules | `(tactic| walk_at "rd") => `(tactic| repeat walk_at "rd1")
local macro_rules | `(tactic| walk_at "rs1") => `(tactic| first
  | (with_reducible refine c_next ?_)
  | (with_reducible refine c_drop ?_)
  | (with_reducible refine c_ret ?_)
  | (with_reducible refine c_retN ?_)
  | (with_reducible refine c_ifs ?_)
  | (with_reducible refine c_c ?_)
  | (with_reducible refine c_op ?_)
  | (with_reducible refine c_un ?_)
  | (with_reducible refine c_cb ?_)
  | (with_reducible refine c_nil ?_)
  | (with_reducible refine c_cons ?_)
  | (with_reducible refine c_call ?_)
  | (with_reducible refine c_callK ?_)
  | (with_reducible refine c_test ?_)
  | (with_reducible refine c_tB ?_)
  | (with_reducible refine c_and ?_)
  | (with_reducible refine c_or ?_)
  | (with_reducible refine c_not ?_)
  | (with_reducible refine c_andV ?_)
  | (with_reducible refine c_orV ?_)
  | (with_reducible refine c_notV ?_)
  | (with_reducible refine c_chain ?_)
  | (with_reducible refine c_sl ?_)
  | (with_reducible refine c_nop ?_)
  | (with_reducible refine c_part ?_)
  | (with_reducible refine c_lst ?_)
  | (with_reducible refine c_tup ?_)
  | (with_reducible refine c_bl ?_)
  | (with_reducible refine c_blP ?_)
  | (with_reducible refine c_parti ?_)
  | (with_reducible refine c_t ?_)
  | (with_reducible refine c_f ?_)
  | (with_reducible refine g_add_i ?_)
  | (with_reducible refine g_sub_i ?_)
  | (with_reducible refine g_neg ?_)
  | (with_reducible refine g_eq_i ?_)
  | (with_reducible refine g_eq_st ?_)
  | (with_reducible refine g_eq_b ?_)
  | (with_reducible refine g_ne_i ?_)
  | (with_reducible refine g_ne_st ?_)
  | (with_reducible refine g_ne_b ?_)
  | (with_reducible refine g_lt_i ?_)
  | (with_reducible refine g_le_i ?_)
  | (with_reducible refine g_gt_i ?_)
  | (with_reducible refine g_ge_i ?_)
  | (with_reducible refine g_le_s ?_)
  | (with_reducible refine g_in_s ?_)
  | (with_reducible refine g_ni_s ?_)
  | (with_reducible refine c_brk ?_)
  | (with_reducible refine c_cont ?_)
  | (with_reducible refine c_for ?_)
  | (with_reducible refine c_lcW ?_)
  | (with_reducible refine c_iList ?_)
  | (with_reducible refine c_iTup ?_)
  | (with_reducible refine c_iStr ?_)
  | (with_reducible refine c_iRng1 ?_)
  | (with_reducible refine c_iS ?_)
  | (with_reducible refine c_yes ?_)
  | (with_reducible refine c_sub ?_)
  | (with_reducible refine c_pair ?_)
  | (with_reducible refine c_pnil ?_)
  | (with_reducible refine c_isn ?_)
  | (with_reducible refine c_notn ?_)
  | (with_reducible refine c_sfld ?_)
  | (with_reducible refine c_fld ?_)
  | (with_reducible refine c_raise ?_)
  | (with_reducible refine c_meth0 ?_)
  | (with_reducible refine c_iEnum ?_)
  | (with_reducible refine c_bm ?_)
  | (with_reducible refine c_bm0 ?_)
  | (with_reducible refine c_mk ?_)
  | (with_reducible refine c_try ?_)
  | (with_reducible refine c_iEnumT ?_)
  | (with_reducible refine c_callKS ?_)
  | (with_reducible refine c_tryO ?_)
  | (with_reducible refine c_repl ?_)
  | (with_reducible refine c_fmt ?_)
  | (with_reducible refine c_fs ?_)
  | (with_reducible refine c_jn ?_)
  | (with_reducible refine c_jc ?_)
  | (with_reducible refine c_tru ?_)
  | (with_reducible refine c_m1 ?_)
  | (with_reducible refine c_dget ?_)
  | (with_reducible refine c_din ?_)
  | (with_reducible refine c_dni ?_)
  | (with_reducible refine c_dput ?_)
  | (with_reducible refine c_star ?_)
  | (with_reducible refine c_while ?_)
  | (with_reducible refine c_dcW ?_)
  | (with_reducible refine c_var0 ?_)
  | (with_reducible refine c_asg0 ?_)
  | (with_reducible refine c_nam0 ?_)
  | (with_reducible refine c_var1 ?_)
  | (with_reducible refine c_asg1 ?_)
  | (with_reducible refine c_nam1 ?_)
  | (with_reducible refine c_var2 ?_)
  | (with_reducible refine c_asg2 ?_)
  | (with_reducible refine c_nam2 ?_)
  | (with_reducible refine c_var3 ?_)
  | (with_reducible refine c_asg3 ?_)
  | (with_reducible refine c_nam3 ?_)
  | (with_reducible refine c_var4 ?_)
  | (with_reducible refine c_asg4 ?_)
  | (with_reducible refine c_nam4 ?_)
  | (with_reducible refine c_var5 ?_)
  | (with_reducible refine c_asg5 ?_)
  | (with_reducible refine c_nam5 ?_)
  | (with_reducible refine c_var6 ?_)
  | (with_reducible refine c_asg6 ?_)
  | (with_reducible refine c_nam6 ?_)
  | (with_reducible refine c_var7 ?_)
  | (with_reducible refine c_asg7 ?_)
  | (with_reducible refine c_nam7 ?_)
  | (with_reducible refine c_var8 ?_)
  | (with_reducible refine c_asg8 ?_)
  | (with_reducible refine c_nam8 ?_)
  | (with_reducible refine c_var9 ?_)
  | (with_reducible refine c_asg9 ?_)
  | (with_reducible refine c_nam9 ?_)
  | (with_reducible refine c_var10 ?_)
  | (with_reducible refine c_asg10 ?_)
  | (with_reducible refine c_nam10 ?_)
  | (with_reducible refine c_var11 ?_)
  | (with_reducible refine c_asg11 ?_)
  | (with_reducible refine c_nam11 ?_)
  | (with_reducible refine c_var12 ?_)
  | (with_reducible refine c_asg12 ?_)
  | (with_reducible refine c_nam12 ?_)
  | (with_reducible refine c_var13 ?_)
  | (with_reducible refine c_asg13 ?_)
  | (with_reducible refine c_nam13 ?_)
  | (with_reducible refine c_var14 ?_)
  | (with_reducible refine c_asg14 ?_)
  | (with_reducible refine c_nam14 ?_)
  | (with_reducible refine c_var15 ?_)
  | (with_reducible refine c_asg15 ?_)
  | (with_reducible refine c_nam15 ?_)
  | (with_reducible refine c_asgG ?_)
  | ((with_reducible refine g_ix_l (xs := ?gxa) (v := ?gxb) ?gx1 ?gx2 ?gx3); (case gx1 => walk_at "get"); (case gx2 => rfl))
  | ((with_reducible refine g_len_l (xs := ?gxa) (.inl ?gx1) ?gx3); (case gx1 => walk_at "get"))
  | ((with_reducible refine g_mod_i ?gx1 ?gx3); (case gx1 => omega)))
local macro_rules | `(tactic| walk_at "rs") => `(tactic| repeat walk_at "rs1")
section
variable {P : Program} {w : World} {K : PySem.W.Frag} {mg : Str → Option Value} {base : Heap} {Z : Ads}
theorem c_tak {st : Addr} {size : Int} {H : Hp} {Q : VK} {E : XK} (hd : Stt P w K H st) (h0 : 0 < size) (h1 : size < 2 ^ 64) (h : ∀ n H', 0 ≤ n → n < size → Ex H H' → Q (.int n) H') : sp__law_take P w K ([.ref st, .int size] ++ []) H Q E := ⟨st, size, rfl, hd, h0, h1, h⟩
/-- a word of letters, of 1 to n signs -/
def LW (n : Nat) (z : Str) : Prop := (1 ≤ z.length ∧ z.length ≤ n) ∧ ∀ c ∈ z.cps.toList, isLet c = true
theorem abc_len : abcS.cps.toList.length = 26 := by decide +kernel
theorem abc_at : ∀ k, k < 26 → abcS.cps.toList[k]? = some (97 + k) := by decide +kernel
theorem atI_abc {n : Int} (h0 : 0 ≤ n) (h1 : n < 26) : atI abcS.cps.toList n = some (97 + n.toNat) := by
  obtain ⟨k, rfl⟩ : ∃ k : Nat, n = k := ⟨n.toNat, by omega⟩
  exact atI_nat (abc_at k (by omega))
theorem isLet_k {k : Nat} (h : k < 26) : isLet (97 + k) = true := decide_eq_true (by omega)
theorem tl_sgn (z : Str) (c : Nat) : ((z ++ ⟨#[c]⟩ : Str)).cps.toList = z.cps.toList ++ [c] := TL.tl_append z _
theorem cutS_dropN (z : Str) (k : Nat) : (cutS z (some (k : Int)) none).cps.toList = z.cps.toList.drop k := by
  show (z.cps.toList.drop (HT.sIx z.length 0 (some (k : Int)))).take (HT.sIx z.length z.length none - HT.sIx z.length 0 (some (k : Int))) = _
  rw [HT.sIx_none, HT.sIx_nat, ← len_tl]
  by_cases h : k ≤ z.cps.toList.length
  · rw [Nat.min_eq_left h, List.take_of_length_le (by rw [List.length_drop]; omega)]
  · rw [Nat.min_eq_right (by omega), Nat.sub_self, List.take_zero, List.drop_eq_nil_of_le (by omega)]
theorem LW.add {n : Nat} {z : Str} {c : Nat} (h : z.length ≤ n ∧ ∀ c ∈ z.cps.toList, isLet c = true) (hc : isLet c = true) : LW (n + 1) (z ++ ⟨#[c]⟩) := by
  refine ⟨⟨by rw [len_app, len_sgn]; omega, by rw [len_app, len_sgn]; omega⟩, fun c' hc' => ?_⟩
  rw [tl_sgn] at hc'
  rcases List.mem_append.mp hc' with k | k
  · exact h.2 c' k
  · rw [List.mem_singleton.mp k]; exact hc
theorem LW.mix {z : Str} {a b c : Nat} (h : LW 8 z) (ha : a < z.length) (hb : b = a ∨ b = a + 1) (hc : isLet c = true) : LW 9 ((cutS z none (some (a : Int)) ++ ⟨#[c]⟩) ++ cutS z (some (b : Int)) none) := by
  have e1 : (((cutS z none (some (a : Int)) ++ ⟨#[c]⟩) ++ cutS z (some (b : Int)) none : Str)).cps.toList = (z.cps.toList.take a ++ [c]) ++ z.cps.toList.drop b := by
    rw [show (((cutS z none (some (a : Int)) ++ ⟨#[c]⟩) ++ cutS z (some (b : Int)) none : Str)).cps.toList = (cutS z none (some (a : Int)) ++ ⟨#[c]⟩ : Str).cps.toList ++ (cutS z (some (b : Int)) none).cps.toList from TL.tl_append _ _, tl_sgn, cutS_take, cutS_dropN]
  have hl := len_tl z
  refine ⟨?_, fun c' hc' => ?_⟩
  · rw [← len_tl, e1, List.length_append, List.length_append, List.length_take, List.length_drop]
    have := h.1.2
    simp only [List.length_cons, List.length_nil]; omega
  · rw [e1] at hc'
    rcases List.mem_append.mp hc' with k | k
    · rcases List.mem_append.mp k with m | m
      · exact h.2 c' (List.mem_of_mem_take m)
      · rw [List.mem_singleton.mp m]; exact hc
    · exact h.2 c' (List.mem_of_mem_drop k)
/-- the k-th word that is tried where one is taken -/
def candK (z : Str) (k : Nat) : Str := (cutS z none (some 6) ++ ⟨#[97 + k / 26]⟩) ++ ⟨#[97 + k % 26]⟩
theorem candK_tl (z : Str) (k : Nat) : (candK z k).cps.toList = z.cps.toList.take 6 ++ [97 + k / 26, 97 + k % 26] := by
  unfold candK
  rw [tl_sgn, tl_sgn, show cutS z none (some 6) = cutS z none (some ((6 : Nat) : Int)) from rfl, cutS_take]; simp
theorem candK_ok {z : Str} {k : Nat} (h : ∀ c ∈ z.cps.toList, isLet c = true) (hk : k < 676) : LW 8 (candK z k) := by
  refine ⟨?_, fun c hc => ?_⟩
  · rw [← len_tl, candK_tl, List.length_append, List.length_take]
    simp only [List.length_cons, List.length_nil]; omega
  · rw [candK_tl] at hc
    rcases List.mem_append.mp hc with m | m
    · exact h c (List.mem_of_mem_take m)
    · simp only [List.mem_cons, List.not_mem_nil, or_false] at m
      rcases m with rfl | rfl
      · exact isLet_k (by omega)
      · exact isLet_k (by omega)
theorem candK_inj {z : Str} {a b : Nat} (h : candK z a = candK z b) : a = b := by
  have := congrArg (fun s : Str => s.cps.toList) h
  simp only [candK_tl, List.append_cancel_left_eq, List.cons.injEq, and_true] at this
  omega
theorem candK_ex (z : Str) (L : List Str) : ∃ k, k < L.length + 1 ∧ candK z k ∉ L := by
  refine Classical.byContradiction fun no => ?_
  have h1 : ((List.range (L.length + 1)).map (candK z)).Nodup := List.pairwise_map.mpr (List.nodup_range.imp fun ne e => ne (candK_inj e))
  have h2 := sub_len (ys := L) h1 (fun x hx => by
    obtain ⟨k, hk, rfl⟩ := List.mem_map.mp hx
    exact Classical.byContradiction fun m => no ⟨k, List.mem_range.mp hk, m⟩)
  rw [List.length_map, List.length_range] at h2
  omega
theorem own_ok : ∀ z ∈ (["lot", "held", "back", "by", "in", "all", "some", "none", "rule", "rank", "told", "with", "tell", "drop"] : List Str) ++ (["label", "rules", "why", "or", "and", "clash", "set", "sound", "head", "body", "unless", "names"] : List Str), (1 ≤ z.length ∧ z.length ≤ 9) ∧ z.cps.toList.all isLet = true := by decide +kernel
theorem rd__law_name {vs : List V} {H : Hp} {Q : VK} {E : XK} (h : sp__law_name P w K vs H Q E) : t__law_name P w K Z { nx := fun _ H' => Q .non H', rt := Q } (start ["state", "used", "letters", "own", "way", "word", "at", "k", "some", "one"] vs) H := by
  obtain ⟨st, u, us, rfl, hS, hu, ⟨hU1, hU2, hU3⟩, q⟩ := h
  show t__law_name P w K Z _ [some (.ref st), some (.ref u), none, none, none, none, none, none, none, none] H
  unfold t__law_name
  walk_at "rd"
  refine c_lstE (by simp) (fun po H1 n1 e1 h1 => ?_)
  walk_at "rd"
  refine c_lstE (by simp) (fun po2 H2 n2 e2 h2 => ?_)
  refine g_add_l (e2 _ _ h1) h2 (by simp) (fun po3 H3 n3 e3 h3 => ?_)
  walk_at "rd"
  have t3 := e1.trans (e2.trans e3)
  refine c_tak (hS.ex t3) (by omega) (by omega) (fun way H4 w0 w5 e4 => ?_)
  walk_at "rd"
  refine c_tak (hS.ex (t3.trans e4)) (by omega) (by omega) (fun n5 H5 a0 a1 e5 => ?_)
  refine g_ix_s (z := abcS) (by decide +kernel) (atI_abc a0 a1) ?_
  have t5 := t3.trans (e4.trans e5)
  have hu5 := t5 _ _ hu
  have hS5 := hS.ex t5
  have h35 : H5 po3 = some (.lst (((["lot", "held", "back", "by", "in", "all", "some", "none", "rule", "rank", "told", "with", "tell", "drop"] : List Str) ++ (["label", "rules", "why", "or", "and", "clash", "set", "sound", "head", "body", "unless", "names"] : List Str)).map V.str)) := e5 _ _ (e4 _ _ h3)
  have hc5 := isLet_k (k := n5.toNat) (by omega)
  have lw1 : LW 9 ⟨#[97 + n5.toNat]⟩ := ⟨⟨Nat.le_of_eq (len_sgn _).symm, by rw [len_sgn]; omega⟩, fun c hc => by
    have e : c = 97 + n5.toNat := by simpa using hc
    rw [e]; exact hc5⟩
  dsimp only
  show tSeq (tIfS _ _ _) _ _ [some (V.ref st), some (V.ref u), some (V.str abcS), some (V.ref po3), some (V.int way), some (V.str ⟨#[97 + n5.toNat]⟩), none, none, none, none] H5
  with_reducible refine c_seqJ (fun σ' H' => ∃ (z : Str) (y6 y7 : Option V), σ' = [some (.ref st), some (.ref u), some (.str abcS), some (.ref po3), some (.int way), some (.str z), y6, y7, none, none] ∧ LW 9 z ∧ Ex H5 H') ?_ ?_
  · intro N hN
    walk_at "rs"
    refine c_d (fun _ => ?_) (fun _ => ?_)
    · walk_at "rs"
      refine c_tak hS5 (by simp) (by simp) (fun n6 H6 b0 b1 e6 => ?_)
      obtain ⟨k, v, rfl, hk, hm, hv⟩ := atI_in b0 b1
      obtain ⟨z, hz, rfl⟩ := List.mem_map.mp hm
      refine g_ix_l (sq_l (e6 _ _ h35)) hv ?_
      walk_at "rs"
      obtain ⟨o1, o2⟩ := own_ok z hz
      exact hN _ _ ⟨z, none, none, rfl, ⟨o1, fun c hc => List.all_eq_true.mp o2 c hc⟩, e6⟩
    · walk_at "rs"
      refine c_d (fun _ => ?_) (fun _ => ?_)
      · have hul : 0 < us.length := List.length_pos_iff.mpr fun k => by have := hU1 "not" (by decide +kernel); rw [k] at this; cases this
        walk_at "rd"
        try refine g_len_l (.inl (sq_l hu5)) ?_
        try walk_at "rd"
        refine c_tak hS5 (by rw [List.length_map]; omega) (by rw [List.length_map]; omega) (fun n6 H6 b0 b1 e6 => ?_)
        obtain ⟨k, v, rfl, hk, hm, hv⟩ := atI_in b0 b1
        obtain ⟨z, hz, rfl⟩ := List.mem_map.mp hm
        refine g_ix_l (sq_l (e6 _ _ hu5)) hv ?_
        obtain ⟨z1, z2⟩ := hU3 z hz
        walk_at "rd"
        refine g_len_s (by omega) ?_
        walk_at "rd"
        refine c_tak (hS5.ex e6) (by omega) (by omega) (fun n7 H7 c0 c1 e7 => ?_)
        walk_at "rd"
        refine g_sl_s (by omega) ?_
        walk_at "rd"
        refine c_tak (hS5.ex (e6.trans e7)) (by omega) (by omega) (fun n8 H8 d0 d1 e8 => ?_)
        refine g_ix_s (z := abcS) (by decide +kernel) (atI_abc d0 d1) ?_
        obtain ⟨a, rfl⟩ : ∃ a : Nat, n7 = a := ⟨n7.toNat, by omega⟩
        have lcut : (cutS z none (some (a : Int))).length ≤ 8 := by rw [← len_tl, cutS_take, List.length_take, len_tl]; omega
        refine g_add_s (by rw [len_sgn]; omega) ?_
        walk_at "rd"
        refine c_tak (hS5.ex (e6.trans (e7.trans e8))) (by omega) (by omega) (fun n9 H9 f0 f1 e9 => ?_)
        walk_at "rd"
        refine g_sl_s (by omega) ?_
        obtain ⟨b, hb⟩ : ∃ b : Nat, (a : Int) + n9 = b := ⟨((a : Int) + n9).toNat, by omega⟩
        rw [hb]
        have lcut2 : (cutS z (some (b : Int)) none).length ≤ 8 := by rw [← len_tl, cutS_dropN, List.length_drop, len_tl]; omega
        refine g_add_s (by rw [len_app, len_sgn]; omega) ?_
        walk_at "rs"
        exact hN _ _ ⟨_, _, none, rfl, LW.mix ⟨z1, z2⟩ (by omega) (by omega) (isLet_k (by omega)), e6.trans (e7.trans (e8.trans e9))⟩
      · walk_at "rs"
        refine c_tak hS5 (by omega) (by omega) (fun n6 H6 b0 b1 e6 => ?_)
        walk_at "rs"
        refine c_iR1 (by omega) (by omega) ?_
        refine for_it walk_range (fun i σ H' => Ex H5 H' ∧ ∃ (z : Str) (y : Option V), σ = [some (.ref st), some (.ref u), some (.str abcS), some (.ref po3), some (.int way), some (.str z), none, y, none, none] ∧ LW (1 + i) z) ⟨e6, _, none, rfl, ⟨Nat.le_of_eq (len_sgn _).symm, by rw [len_sgn]; omega⟩, lw1.2⟩ (fun _ _ _ _ _ => trivial) ?_ ?_
        · rintro i x σ H7 H8 hi ⟨e7, z, y, rfl, hz⟩ ⟨rfl, rfl⟩
          have hz9 := hz.1.2
          walk_at "rs"
          refine c_tak (hS5.ex e7) (by omega) (by omega) (fun m H9 m0 m1 e9 => ?_)
          refine g_ix_s (z := abcS) (by decide +kernel) (atI_abc m0 m1) ?_
          refine g_add_s (by rw [len_sgn]; omega) ?_
          walk_at "rs"
          exact ⟨e7.trans e9, _, _, rfl, by rw [← Nat.add_assoc]; exact LW.add ⟨hz.1.2, hz.2⟩ (isLet_k (by omega))⟩
        · rintro σ H7 ⟨e7, z, y, rfl, hz⟩
          exact hN _ _ ⟨z, none, y, rfl, ⟨⟨hz.1.1, by have := hz.1.2; omega⟩, hz.2⟩, e7⟩
  · rintro _ H6 ⟨z, y6, y7, rfl, hz, e6⟩
    have hu6 := e6 _ _ hu5
    have hS6 := hS5.ex e6
    have hz9 := hz.1.2
    -- the end
    have fin : ∀ (z : Str) (y7 y8 y9 : Option V) H7, Ex H6 H7 → LW 8 z → z ∉ us → tSeq (tDrop (tBM K "list" rAppend (tVar 1) (tCons (tVar 5) tNil))) (tRet (tVar 5)) { nx := fun _ H' => Q .non H', rt := Q } [some (.ref st), some (.ref u), some (.str abcS), some (.ref po3), some (.int way), some (.str z), y6, y7, y8, y9] H7 := by
      intro z y7 y8 y9 H7 e7 hz hn
      have hu7 := e7 _ _ hu6
      walk_at "rd"
      refine ⟨ty_l hu7, ?_⟩
      walk_at "rd"
      refine g_append hu7 (by rw [List.length_map]; omega) (fun H8 e8 h8 => ?_)
      walk_at "rd"
      refine q z H8 ((nameS_iff z).mpr ⟨hz.1, fun k => hn (hU1 z k), hz.2⟩) hn (fun x o hx ho => e8 _ _ hx (e7 _ _ (e6 _ _ (t5 _ _ ho)))) (by rw [h8, List.map_append]; rfl) ?_
      exact Stt.exb e8 hu7 (hS6.ex e7)
    have usL : ∀ y, V.str y ∈ us.map V.str ↔ y ∈ us := fun y => by simp
    with_reducible refine c_seqJ (fun σ' H' => ∃ (z : Str) (y7 y8 y9 : Option V), σ' = [some (.ref st), some (.ref u), some (.str abcS), some (.ref po3), some (.int way), some (.str z), y6, y7, y8, y9] ∧ Ex H6 H' ∧ LW 8 z ∧ z ∉ us) ?_ ?_
    · intro N hN
      walk_at "rs"
      have rep : ∀ H7, Ex H6 H7 → tSeq
              (tAsg
                (tLc (iRng1 (tCons (tOp (gAdd K) (tCB (gLen K) (tCons (tVar 1) tNil)) (tC (V.int 1))) tNil)) (gName 7)
                  tYes
                  (tOp (gAdd K)
                    (tOp (gAdd K) (tSl (gSl K) (tVar 5) tNoPart (tPart (tC (V.int 6))))
                      (tOp (rIx K) (tVar 2) (tOp (rI CDivW fun i j => V.int (i / j)) (tVar 7) (tC (V.int 26)))))
                    (tOp (rIx K) (tVar 2)
                      (tOp (rI (fun _ j => 0 < j) fun i j => V.int (i % j)) (tVar 7) (tC (V.int 26)))))
                  [7])
                (gName 8))
              (tAsg
                (tOp (rIx K) (tLc (iList K (tVar 8)) (gName 9) (tTest (tOp (gNi K) (tVar 9) (tVar 1))) (tVar 9) [9])
                  (tC (V.int 0)))
                (gName 5))
              ({ nx := N, rt := Q } : L2.Ends)
              [some (V.ref st), some (V.ref u), some (V.str abcS), some (V.ref po3), some (V.int way), some (V.str z), y6, y7, none, none]
              H7 := by
        intro H7 e7
        have hu7 := e7 _ _ hu6
        walk_at "rd"
        refine c_iR1 (by rw [List.length_map]; omega) (by rw [List.length_map]; omega) ?_
        refine c_lc walk_range (fun i acc => acc = (((List.range i).map (candK z)).map V.str)) (σ0 := [some (V.ref st), some (V.ref u), some (V.str abcS), some (V.ref po3), some (V.int way), some (V.str z), y6, none, none, none]) rfl (by rw [List.length_map]; omega) rfl (fun _ _ => trivial) ?_ ?_
        · rintro i acc x H8 H9 Q1 Q0 hi rfl e8 ⟨rfl, rfl⟩ k1 _
          rw [List.length_map] at hi
          walk_at "rs"
          refine ⟨rfl, ?_⟩
          walk_at "rs"
          refine g_sl_s (by omega) ?_
          walk_at "rs"
          refine g_fdiv_i (wide_div (j := 26) (b := 65) (by decide) (by decide) (by decide) (by decide)) ?_
          refine g_ix_s (z := abcS) (by decide +kernel) (atI_abc (by omega) (by omega)) ?_
          have l6 : (cutS z none (some (6 : Int))).length ≤ 9 := by rw [← len_tl, show cutS z none (some 6) = cutS z none (some ((6 : Nat) : Int)) from rfl, cutS_take, List.length_take, len_tl]; omega
          refine g_add_s (by rw [len_sgn]; omega) ?_
          walk_at "rs"
          refine g_ix_s (z := abcS) (by decide +kernel) (atI_abc (by omega) (by omega)) ?_
          refine g_add_s (by rw [len_app, len_sgn, len_sgn]; omega) ?_
          refine k1 _ _ (Ex.refl _) ?_
          rw [List.range_succ, List.map_append, List.map_append]
          show _ = _ ++ [V.str (candK z i)]
          have q1 : (((0 : Int) + (i : Int)) / 26).toNat = i / 26 := by omega
          have q2 : (((0 : Int) + (i : Int)) % 26).toNat = i % 26 := by omega
          unfold candK
          rw [q1, q2]
        · rintro D H8 xs hD e8 rfl _ h8
          have hN1 : (((us.map V.str).length : Int) + 1).toNat = us.length + 1 := by rw [List.length_map]; omega
          replace h8 : H8 D = some (.lst (((List.range (us.length + 1)).map (candK z)).map V.str)) := by
            rw [h8]
            congr 5
          walk_at "rs"
          refine c_iL (sq_l h8) ?_
          refine c_lc walk_list (fun i acc => acc = (((((List.range (us.length + 1)).map (candK z)).take i).filter fun y => !decide (y ∈ us)).map V.str)) (σ0 := [some (V.ref st), some (V.ref u), some (V.str abcS), some (V.ref po3), some (V.int way), some (V.str z), y6, y7, some (V.ref D), none]) rfl (by simp; omega) rfl (fun H' e' => sq_l (e' _ _ h8)) ?_ ?_
          · rintro i acc x H9 HA Q1 Q0 hi rfl e9 ⟨rfl, hx⟩ k1 k0
            rw [List.getElem?_map] at hx
            obtain ⟨y, hy, rfl⟩ := Option.map_eq_some_iff.mp hx
            have ks : (((((List.range (us.length + 1)).map (candK z)).take (i + 1)).filter fun y => !decide (y ∈ us)).map V.str) = (((((List.range (us.length + 1)).map (candK z)).take i).filter fun y => !decide (y ∈ us)).map V.str) ++ ([y].filter fun y => !decide (y ∈ us)).map V.str := by
              rw [take_snoc hy, List.filter_append, List.map_append]
            walk_at "rs"
            refine ⟨rfl, ?_⟩
            walk_at "rs"
            refine g_ni_l (.inl (sq_l (e9 _ _ (e8 _ _ hu7)))) (by simp [flatV]) (by simp [flatV]) ?_
            rw [inV_strs]
            refine ⟨_, rfl, ?_⟩
            refine c_nd (fun hn => ?_) (fun hn => ?_)
            · walk_at "rs"
              refine k1 _ _ (Ex.refl _) ?_
              rw [ks]; simp [hn]
            · refine k0 _ (Ex.refl _) ?_
              rw [ks]; simp [hn]
          · rintro DD HB xs hDD eB rfl _ hB
            obtain ⟨kk, hk1, hk2⟩ := candK_ex z us
            rw [List.take_of_length_le (by simp)] at hB
            generalize hG : (((List.range (us.length + 1)).map (candK z)).filter fun y => !decide (y ∈ us)) = G at hB
            have hk : candK z kk ∈ G := by
              rw [← hG, List.mem_filter]
              exact ⟨List.mem_map.mpr ⟨kk, List.mem_range.mpr hk1, rfl⟩, by simp [hk2]⟩
            have hall : ∀ x ∈ G, ∃ k, k < us.length + 1 ∧ candK z k = x ∧ x ∉ us := by
              intro x hx
              rw [← hG, List.mem_filter] at hx
              obtain ⟨k, h1, h2⟩ := List.mem_map.mp hx.1
              exact ⟨k, List.mem_range.mp h1, h2, by simpa using hx.2⟩
            cases G with
            | nil => cases hk
            | cons x G =>
              obtain ⟨k, h1, rfl, h3⟩ := hall x (List.mem_cons_self ..)
              walk_at "rs"
              refine g_ix_l (sq_l hB) atI0 ?_
              walk_at "rs"
              exact hN _ _ ⟨candK z k, y7, _, _, rfl, e7.trans (e8.trans eB), candK_ok hz.2 (by omega), h3⟩
      refine g_in_l (.inl (sq_l hu6)) (by simp [flatV]) (by simp [flatV]) ?_
      rw [inV_strs]
      refine ⟨_, rfl, ?_⟩
      refine c_d (fun hm => rep _ (Ex.refl _)) (fun hm => ?_)
      walk_at "rs"
      refine g_len_s (by omega) ?_
      walk_at "rs"
      refine c_d (fun hm => rep _ (Ex.refl _)) (fun h8 => ?_)
      walk_at "rs"
      exact hN _ _ ⟨z, y7, none, none, rfl, Ex.refl _, ⟨⟨hz.1.1, by omega⟩, hz.2⟩, hm⟩
    · rintro _ H7 ⟨z, y7, y8, y9, rfl, e7, h7, n7⟩
      exact fin z y7 y8 y9 H7 e7 h7 n7

end
end K11

set_option maxHeartbeats 800000
namespace K11
open PySem PySem.Spec PyProof.Rows L2 Evl Gx
local macro_rules | `(tactic| walk_at "get") => `(tactic| first
  | assumption
  | exact upd_same
  | ((with_reducible refine sq_l ?_); walk_at "get")
  | ((with_reducible refine sq_t ?_); walk_at "get")
  | ((with_reducible refine ex_l (by assumption) ?_); walk_at "get")
  | ((with_reducible refine ex_t (by assumption) ?_); walk_at "get")
  | ((with_reducible refine Draw.ex (by assumption) ?_); walk_at "get")
  | ((with_reducible refine Arg.ex (by assumption) ?_); walk_at "get")
  | ((with_reducible refine IsRule.ex (by assumption) ?_); walk_at "get")
  | ((with_reducible refine Thing.ex (by assumption) ?_); walk_at "get")
  | ((with_reducible refine exget (by assumption) ?_); walk_at "get"))
local macro_rules | `(tactic| walk_at "rd1") => `(tactic| first
  | (with_reducible refine c_seq ?_)
  | (with_reducible refine c_next ?_)
  | (with_reducible refine c_drop ?_)
  | (with_reducible refine c_ret ?_)
  | (with_reducible refine c_retN ?_)
  | (with_reducible refine c_ifs ?_)
  | (with_reducible refine c_c ?_)
  | (with_reducible refine c_op ?_)
  | (with_reducible refine c_un ?_)
  | (with_reducible refine c_cb ?_)
  | (with_reducible refine c_nil ?_)
  | (with_reducible refine c_cons ?_)
  | (with_reducible refine c_call ?_)
  | (with_reducible refine c_callK ?_)
  | (with_reducible refine c_test ?_)
  | (with_reducible refine c_tB ?_)
  | (with_reducible refine c_and ?_)
  | (with_reducible refine c_or ?_)
  | (with_reducible refine c_not ?_)
  | (with_reducible refine c_andV ?_)
  | (with_reducible refine c_orV ?_)
  | (with_reducible refine c_notV ?_)
  | (with_reducible refine c_if ?_)
  | (with_reducible refine c_chain ?_)
  | (with_reducible refine c_sl ?_)
  | (with_reducible refine c_nop ?_)
  | (with_reducible refine c_part ?_)
  | (with_reducible refine c_lst ?_)
  | (with_reducible refine c_tup ?_)
  | (with_reducible refine c_bl ?_)
  | (with_reducible refine c_blP ?_)
  | (with_reducible refine c_parti ?_)
  | (with_reducible refine c_t ?_)
  | (with_reducible refine c_f ?_)
  | (with_reducible refine g_add_i ?_)
  | (with_reducible refine g_sub_i ?_)
  | (with_reducible refine g_neg ?_)
  | (with_reducible refine g_eq_i ?_)
  | (with_reducible refine g_eq_st ?_)
  | (with_reducible refine g_eq_b ?_)
  | (with_reducible refine g_ne_i ?_)
  | (with_reducible refine g_ne_st ?_)
  | (with_reducible refine g_ne_b ?_)
  | (with_reducible refine g_lt_i ?_)
  | (with_reducible refine g_le_i ?_)
  | (with_reducible refine g_gt_i ?_)
  | (with_reducible refine g_ge_i ?_)
  | (with_reducible refine g_le_s ?_)
  | (with_reducible refine g_in_s ?_)
  | (with_reducible refine g_ni_s ?_)
  | (with_reducible refine c_brk ?_)
  | (with_reducible refine c_cont ?_)
  | (with_reducible refine c_for ?_)
  | (with_reducible refine c_lcW ?_)
  | (with_reducible refine c_iList ?_)
  | (with_reducible refine c_iTup ?_)
  | (with_reducible refine c_iStr ?_)
  | (with_reducible refine c_iRng1 ?_)
  | (with_reducible refine c_iS ?_)
  | (with_reducible refine c_yes ?_)
  | (with_reducible refine c_sub ?_)
  | (with_reducible refine c_pair ?_)
  | (with_reducible refine c_pnil ?_)
  | (with_reducible refine c_isn ?_)
  | (with_reducible refine c_notn ?_)
  | (with_reducible refine c_sfld ?_)
  | (with_reducible refine c_fld ?_)
  | (with_reducible refine c_raise ?_)
  | (with_reducible refine c_meth0 ?_)
  | (with_reducible refine c_iEnum ?_)
  | (with_reducible refine c_bm ?_)
  | (with_reducible refine c_bm0 ?_)
  | (with_reducible refine c_mk ?_)
  | (with_reducible refine c_try ?_)
  | (with_reducible refine c_iEnumT ?_)
  | (with_reducible refine c_callKS ?_)
  | (with_reducible refine c_tryO ?_)
  | (with_reducible refine c_repl ?_)
  | (with_reducible refine c_fmt ?_)
  | (with_reducible refine c_fs ?_)
  | (with_reducible refine c_jn ?_)
  | (with_reducible refine c_jc ?_)
  | (with_reducible refine c_tru ?_)
  | (with_reducible refine c_m1 ?_)
  | (with_reducible refine c_dget ?_)
  | (with_reducible refine c_din ?_)
  | (with_reducible refine c_dni ?_)
  | (with_reducible refine c_dput ?_)
  | (with_reducible refine c_star ?_)
  | (with_reducible refine c_while ?_)
  | (with_reducible refine c_dcW ?_)
  | (with_reducible refine c_var0 ?_)
  | (with_reducible refine c_asg0 ?_)
  | (with_reducible refine c_nam0 ?_)
  | (with_reducible refine c_var1 ?_)
  | (with_reducible refine c_asg1 ?_)
  | (with_reducible refine c_nam1 ?_)
  | (with_reducible refine c_var2 ?_)
  | (with_reducible refine c_asg2 ?_)
  | (with_reducible refine c_nam2 ?_)
  | (with_reducible refine c_var3 ?_)
  | (with_reducible refine c_asg3 ?_)
  | (with_reducible refine c_nam3 ?_)
  | (with_reducible refine c_var4 ?_)
  | (with_reducible refine c_asg4 ?_)
  | (with_reducible refine c_nam4 ?_)
  | (with_reducible refine c_var5 ?_)
  | (with_reducible refine c_asg5 ?_)
  | (with_reducible refine c_nam5 ?_)
  | (with_reducible refine c_var6 ?_)
  | (with_reducible refine c_asg6 ?_)
  | (with_reducible refine c_nam6 ?_)
  | (with_reducible refine c_var7 ?_)
  | (with_reducible refine c_asg7 ?_)
  | (with_reducible refine c_nam7 ?_)
  | (with_reducible refine c_var8 ?_)
  | (with_reducible refine c_asg8 ?_)
  | (with_reducible refine c_nam8 ?_)
  | (with_reducible refine c_var9 ?_)
  | (with_reducible refine c_asg9 ?_)
  | (with_reducible refine c_nam9 ?_)
  | (with_reducible refine c_var10 ?_)
  | (with_reducible refine c_asg10 ?_)
  | (with_reducible refine c_nam10 ?_)
  | (with_reducible refine c_var11 ?_)
  | (with_reducible refine c_asg11 ?_)
  | (with_reducible refine c_nam11 ?_)
  | (with_reducible refine c_var12 ?_)
  | (with_reducible refine c_asg12 ?_)
  | (with_reducible refine c_nam12 ?_)
  | (with_reducible refine c_var13 ?_)
  | (with_reducible refine c_asg13 ?_)
  | (with_reducible refine c_nam13 ?_)
  | (with_reducible refine c_var14 ?_)
  | (with_reducible refine c_asg14 ?_)
  | (with_reducible refine c_nam14 ?_)
  | (with_reducible refine c_var15 ?_)
  | (with_reducible refine c_asg15 ?_)
  | (with_reducible refine c_nam15 ?_)
  | (with_reducible refine c_asgG ?_)
  | ((with_reducible refine g_ix_l (xs := ?gxa) (v := ?gxb) ?gx1 ?gx2 ?gx3); (case gx1 => walk_at "get"); (case gx2 => rfl))
  | ((with_reducible refine g_len_l (xs := ?gxa) (.inl ?gx1) ?gx3); (case gx1 => walk_at "get"))
  | ((with_reducible refine g_mod_i ?gx1 ?gx3); (case gx1 => omega)))
local macro_rules | `(tactic| walk_at "rd") => `(tactic| repeat walk_at "rd1")
local macro_rules | `(tactic| walk_at "rs1") => `(tactic| first
  | (with_reducible refine c_next ?_)
  | (with_reducible refine c_drop ?_)
  | (with_reducible refine c_ret ?_)
  | (with_reducible refine c_retN ?_)
  | (with_reducible refine c_ifs ?_)
  | (with_reducible refine c_c ?_)
  | (with_reducible refine c_op ?_)
  | (with_reducible refine c_un ?_)
  | (with_reducible refine c_cb ?_)
  | (with_reducible refine c_nil ?_)
  | (with_reducible refine c_cons ?_)
  | (with_reducible refine c_call ?_)
  | (with_reducible refine c_callK ?_)
  | (with_reducible refine c_test ?_)
  | (with_reducible refine c_tB ?_)
  | (with_reducible refine c_and ?_)
  | (with_reducible refine c_or ?_)
  | (with_reducible refine c_not ?_)
  | (with_reducible refine c_andV ?_)
  | (with_reducible refine c_orV ?_)
  | (with_reducible refine c_notV ?_)
  | (with_reducible refine c_chain ?_)
  | (with_reducible refine c_sl ?_)
  | (with_reducible refine c_nop ?_)
  | (with_reducible refine c_part ?_)
  | (with_reducible refine c_lst ?_)
  | (with_reducible refine c_tup ?_)
  | (with_reducible refine c_bl ?_)
  | (with_reducible refine c_blP ?_)
  | (with_reducible refine c_parti ?_)
  | (with_reducible refine c_t ?_)
  | (with_reducible refine c_f ?_)
  | (with_reducible refine g_add_i ?_)
  | (with_reducible refine g_sub_i ?_)
  | (with_reducible refine g_neg ?_)
  | (with_reducible refine g_eq_i ?_)
  | (with_reducible refine g_eq_st ?_)
  | (with_reducible refine g_eq_b ?_)
  | (with_reducible refine g_ne_i ?_)
  | (with_reducible refine g_ne_st ?_)
  | (with_reducible refine g_ne_b ?_)
  | (with_reducible refine g_lt_i ?_)
  | (with_reducible refine g_le_i ?_)
  | (with_reducible refine g_gt_i ?_)
  | (with_reducible refine g_ge_i ?_)
  | (with_reducible refine g_le_s ?_)
  | (with_reducible refine g_in_s ?_)
  | (with_reducible refine g_ni_s ?_)
  | (with_reducible refine c_brk ?_)
  | (with_reducible refine c_cont ?_)
  | (with_reducible refine c_for ?_)
  | (with_reducible refine c_lcW ?_)
  | (with_reducible refine c_iList ?_)
  | (with_reducible refine c_iTup ?_)
  | (with_reducible refine c_iStr ?_)
  | (with_reducible refine c_iRng1 ?_)
  | (with_reducible refine c_iS ?_)
  | (with_reducible refine c_yes ?_)
  | (with_reducible refine c_sub ?_)
  | (with_reducible refine c_pair ?_)
  | (with_reducible refine c_pnil ?_)
  | (with_reducible refine c_isn ?_)
  | (with_reducible refine c_notn ?_)
  | (with_reducible refine c_sfld ?_)
  | (with_reducible refine c_fld ?_)
  | (with_reducible refine c_raise ?_)
  | (with_reducible refine c_meth0 ?_)
  | (with_reducible refine c_iEnum ?_)
  | (with_reducible refine c_bm ?_)
  | (with_reducible refine c_bm0 ?_)
  | (with_reducible refine c_mk ?_)
  | (with_reducible refine c_try ?_)
  | (with_reducible refine c_iEnumT ?_)
  | (with_reducible refine c_callKS ?_)
  | (with_reducible refine c_tryO ?_)
  | (with_reducible refine c_repl ?_)
  | (with_reducible refine c_fmt ?_)
  | (with_reducible refine c_fs ?_)
  | (with_reducible refine c_jn ?_)
  | (with_reducible refine c_jc ?_)
  | (with_reducible refine c_tru ?_)
  | (with_reducible refine c_m1 ?_)
  | (with_reducible refine c_dget ?_)
  | (with_reducible refine c_din ?_)
  | (with_reducible refine c_dni ?_)
  | (with_reducible refine c_dput ?_)
  | (with_reducible refine c_star ?_)
  | (with_reducible refine c_while ?_)
  | (with_reducible refine c_dcW ?_)
  | (with_reducible refine c_var0 ?_)
  | (with_reducible refine c_asg0 ?_)
  | (with_reducible refine c_nam0 ?_)
  | (with_reducible refine c_var1 ?_)
  | (with_reducible refine c_asg1 ?_)
  | (with_reducible refine c_nam1 ?_)
  | (with_reducible refine c_var2 ?_)
  | (with_reducible refine c_asg2 ?_)
  | (with_reducible refine c_nam2 ?_)
  | (with_reducible refine c_var3 ?_)
  | (with_reducible refine c_asg3 ?_)
  | (with_reducible refine c_nam3 ?_)
  | (with_reducible refine c_var4 ?_)
  | (with_reducible refine c_asg4 ?_)
  | (with_reducible refine c_nam4 ?_)
  | (with_reducible refine c_var5 ?_)
  | (with_reducible refine c_asg5 ?_)
  | (with_reducible refine c_nam5 ?_)
  | (with_reducible refine c_var6 ?_)
  | (with_reducible refine c_asg6 ?_)
  | (with_reducible refine c_nam6 ?_)
  | (with_reducible refine c_var7 ?_)
  | (with_reducible refine c_asg7 ?_)
  | (with_reducible refine c_nam7 ?_)
  | (with_reducible refine c_var8 ?_)
  | (with_reducible refine c_asg8 ?_)
  | (with_reducible refine c_nam8 ?_)
  | (with_reducible refine c_var9 ?_)
  | (with_reducible refine c_asg9 ?_)
  | (with_reducible refine c_nam9 ?_)
  | (with_reducible refine c_var10 ?_)
  | (with_reducible refine c_asg10 ?_)
  | (with_reducible refine c_nam10 ?_)
  | (with_reducible refine c_var11 ?_)
  | (with_reducible refine c_asg11 ?_)
  | (with_reducible refine c_nam11 ?_)
  | (with_reducible refine c_var12 ?_)
  | (with_reducible refine c_asg12 ?_)
  | (with_reducible refine c_nam12 ?_)
  | (with_reducible refine c_var13 ?_)
  | (with_reducible refine c_asg13 ?_)
  | (with_reducible refine c_nam13 ?_)
  | (with_reducible refine c_var14 ?_)
  | (with_reducible refine c_asg14 ?_)
  | (with_reducible refine c_nam14 ?_)
  | (with_reducible refine c_var15 ?_)
  | (with_reducible refine c_asg15 ?_)
  | (with_reducible refine c_nam15 ?_)
  | (with_reducible refine c_asgG ?_)
  | ((with_reducible refine g_ix_l (xs := ?gxa) (v := ?gxb) ?gx1 ?gx2 ?gx3); (case gx1 => walk_at "get"); (case gx2 => rfl))
  | ((with_reducible refine g_len_l (xs := ?gxa) (.inl ?gx1) ?gx3); (case gx1 => walk_at "get"))
  | ((with_reducible refine g_mod_i ?gx1 ?gx3); (case gx1 => omega)))
local macro_rules | `(tactic| walk_at "rs") => `(tactic| repeat walk_at "rs1")
section
variable {P : Program} {w : World} {K : PySem.W.Frag} {mg : Str → Option Value} {base : Heap} {Z : Ads}
theorem keepD {D : Addr} {A H' : Hp} {o : HO} (n : A D = none) {x : Addr} {v : HO} (e : A x = some v) : upd H' D o x = H' x := upd_ne fun k => by rw [k, n] at e; cases e
theorem g_listS {K : PySem.W.Frag} {H : Hp} {Q : VK} {p : Addr} {xs : List V} (hp : SqL K H p xs ∨ SqT K H p xs) (h : ∀ r H', H r = none → Ex H H' → H' r = some (.lst xs) → Q (.ref r) H') : rListS K [.ref p] H Q := ⟨p, xs, rfl, hp, fun l hl => h l _ hl (Ex.new hl) upd_same⟩
theorem nms_strs6 {ss : List Str} {m : Nat} (hl : ss.length ≤ m) (nd : ss.Nodup) (nm : Names ss) : nmsO (some (ss.map V.str)) m = true := by
  rw [nmsO_some, List.length_map, Bool.and_eq_true, Bool.and_eq_true]
  refine ⟨decide_eq_true hl, List.all_eq_true.mpr fun x hx => ?_, decide_eq_true ?_⟩
  · obtain ⟨z, hz, rfl⟩ := List.mem_map.mp hx
    exact nm z hz
  · exact List.pairwise_map.mpr (nd.imp fun ne e => ne (by cases e; rfl))
theorem erase_map {α β : Type} (f : α → β) : ∀ (xs : List α) (k : Nat), (xs.map f).eraseIdx k = (xs.eraseIdx k).map f
  | [], _ => rfl
  | _ :: _, 0 => rfl
  | x :: xs, k + 1 => by show f x :: (xs.map f).eraseIdx k = f x :: (xs.eraseIdx k).map f; rw [erase_map f xs k]
theorem rd__law_names {vs : List V} {H : Hp} {Q : VK} {E : XK} (h : sp__law_names P w K vs H Q E) : t__law_names P w K Z { nx := fun _ H' => Q .non H', rt := Q } (start ["state", "used", "many", "k"] vs) H := by
  obtain ⟨st, u, us, m, rfl, hS, hu, hU, hm, q⟩ := h
  show t__law_names P w K Z _ [some (.ref st), some (.ref u), some (.int (m : Nat)), none] H
  unfold t__law_names
  walk_at "rd"
  refine c_iR1 (by omega) (by omega) ?_
  refine lc_inv walk_range (fun D i acc H' => D ≠ u ∧ Exb u H H' ∧ ∃ zs : List Str, acc = zs.map V.str ∧ zs.length = i ∧ zs.Nodup ∧ Names zs ∧ (∀ z ∈ zs, z ∉ us) ∧ H' u = some (.lst ((us ++ zs).map V.str)) ∧ Stt P w K H' st) (σ0 := [some (.ref st), some (.ref u), some (.int (m : Nat)), none]) rfl (by omega) ?_ (fun _ _ _ _ _ => trivial) ?_ ?_
  · intro D hD
    have hne : D ≠ u := fun k => by rw [k, hu] at hD; cases hD
    refine ⟨hne, fun x o _ ho => by rw [keepD hD ho]; exact ho, [], rfl, rfl, List.nodup_nil, by simp [Names], by simp, ?_, Stt.ex (Ex.new hD) hS⟩
    rw [keepD hD hu, List.append_nil]; exact hu
  · rintro D i acc x H2 H3 Q1 Q0 hD hi ⟨hne, eb, zs, rfl, hl, nd, nm, nu, hu2, hS2⟩ hacc _ ⟨rfl, rfl⟩ k1 _
    have hi' : i < m := by omega
    walk_at "rd"
    refine ⟨rfl, ?_⟩
    walk_at "rd"
    obtain ⟨U1, U2, U3⟩ := hU
    refine ⟨st, u, us ++ zs, rfl, hS2, hu2, ⟨fun z hz => List.mem_append.mpr (.inl (U1 z hz)), by rw [List.length_append]; omega, fun z hz => ?_⟩, fun z H4 nz hz e4 hu4 hS4 => ?_⟩
    · rcases List.mem_append.mp hz with k | k
      · exact U3 z k
      · have := (nameS_iff z).mp (nm z k)
        exact ⟨this.1, this.2.2⟩
    · have hD4 := e4 _ _ hne hacc
      refine k1 _ _ hD4 ⟨hne, fun x o hx ho => by rw [keepD hD ho]; exact e4 _ _ hx (eb _ _ hx ho), zs ++ [z], by rw [List.map_append]; rfl, by rw [List.length_append, hl]; rfl, ?_, ?_, ?_, ?_, Stt.exb Exb.upd hD4 hS4⟩
      · rw [List.nodup_append]
        refine ⟨nd, by simp, fun a ha b hb => ?_⟩
        rw [List.mem_singleton.mp hb]
        exact fun k => hz (List.mem_append.mpr (.inr (k ▸ ha)))
      · intro y hy
        rcases List.mem_append.mp hy with k | k
        · exact nm y k
        · rw [List.mem_singleton.mp k]; exact nz
      · intro y hy
        rcases List.mem_append.mp hy with k | k
        · exact nu y k
        · rw [List.mem_singleton.mp k]; exact fun k => hz (List.mem_append.mpr (.inl k))
      · rw [upd_ne (Ne.symm hne), hu4, List.append_assoc]
  · rintro D H2 xs hD ⟨hne, eb, zs, rfl, hl, nd, nm, nu, hu2, hS2⟩ _ h2
    exact q zs D H2 (by omega) nd nm nu hD hne eb h2 hu2 hS2
theorem rd__law_pair {vs : List V} {H : Hp} {Q : VK} {E : XK} (h : sp__law_pair P w K vs H Q E) : t__law_pair P w K Z { nx := fun _ H' => Q .non H', rt := Q } (start ["state", "names", "size", "left", "body", "k"] vs) H := by
  obtain ⟨st, p, ss, rfl, hS, hp, nm, nd, l1, l2, q⟩ := h
  show t__law_pair P w K Z _ [some (.ref st), some (.ref p), none, none, none, none] H
  unfold t__law_pair
  walk_at "rd"
  refine c_tak hS (by omega) (by omega) (fun n1 H1 a0 a1 e1 => ?_)
  walk_at "rd"
  refine c_lstE (by simp) (fun po H2 np e2 h2 => ?_)
  walk_at "rd"
  refine c_tak (hS.ex (e1.trans e2)) (by omega) (by omega) (fun n2 H3 b0 b1 e3 => ?_)
  obtain ⟨k, v, rfl, hk, hm, hv⟩ := atI_in (xs := [V.int 0, .int 1, .int 1, .int 1, .int 2, .int 2, .int 3, .int n1]) b0 (by simpa using b1)
  refine g_ix_l (sq_l (e3 _ _ h2)) hv ?_
  obtain ⟨sz, rfl, s0, s7⟩ : ∃ sz : Int, v = .int sz ∧ 0 ≤ sz ∧ sz < 7 := by
    simp only [List.mem_cons, List.not_mem_nil, or_false] at hm
    rcases hm with rfl | rfl | rfl | rfl | rfl | rfl | rfl | rfl <;> exact ⟨_, rfl, by omega, by omega⟩
  have t3 := e1.trans (e2.trans e3)
  walk_at "rd"
  refine g_listS (.inl (sq_l (t3 _ _ hp))) (fun pl H4 n4 e4 h4 => ?_)
  walk_at "rd"
  refine c_lstE (by simp) (fun pb H5 n5 e5 h5 => ?_)
  have hlb : pl ≠ pb := fun k => by rw [← k, h4] at n5; cases n5
  have nl : H3 pl = none := n4
  have nb : H3 pb = none := by
    cases hx : H3 pb with
    | none => rfl
    | some o => rw [e4 _ _ hx] at n5; cases n5
  walk_at "rd"
  refine g_min ?_
  walk_at "rd"
  have t5 := e4.trans e5
  generalize hmn : (if ((ss.map V.str).length : Int) < sz then ((ss.map V.str).length : Int) else sz) = mn
  rw [List.length_map] at hmn
  have hmn0 : 0 ≤ mn ∧ mn ≤ ss.length ∧ mn < 7 := by
    rw [← hmn]; split <;> omega
  refine ⟨_, rfl, by omega, by omega, ?_⟩
  refine for_it walk_range (fun i σ H' => Ex H3 H' ∧ ∃ (xs ys : List Str) (y : Option V), σ = [some (.ref st), some (.ref p), some (.int sz), some (.ref pl), some (.ref pb), y] ∧ H' pl = some (.lst (xs.map V.str)) ∧ H' pb = some (.lst (ys.map V.str)) ∧ ys.length = i ∧ (ys ++ xs).Perm ss) ⟨t5, ss, [], none, rfl, e5 _ _ h4, h5, rfl, List.Perm.refl _⟩ (fun _ _ _ _ _ => trivial) ?_ ?_
  · rintro i x σ H6 H7 hi ⟨e6, xs, ys, y, rfl, hl6, hb6, hly, hpm⟩ ⟨rfl, rfl⟩
    have hlen := hpm.length_eq
    rw [List.length_append] at hlen
    have hxl : 0 < xs.length := by omega
    walk_at "rd"
    refine ⟨ty_l hb6, ?_⟩
    walk_at "rd"
    refine ⟨ty_l hl6, ?_⟩
    walk_at "rd"
    refine c_tak (hS.ex (t3.trans e6)) (by rw [List.length_map]; omega) (by rw [List.length_map]; omega) (fun n3 H8 c0 c1 e8 => ?_)
    rw [List.length_map] at c1
    obtain ⟨k, z, rfl, hk, hz, _⟩ := atI_in c0 c1
    walk_at "rd"
    refine g_popAt (e8 _ _ hl6) rfl (y := .str z) (by rw [List.getElem?_map, hk]; rfl) (by rw [List.length_map]; omega) (fun H9 e9 h9 => ?_)
    walk_at "rd"
    have hb9 : H9 pb = some (.lst (ys.map V.str)) := e9 _ _ (Ne.symm hlb) (e8 _ _ hb6)
    refine g_append hb9 (by rw [List.length_map]; omega) (fun H10 e10 h10 => ?_)
    walk_at "rd"
    refine ⟨fun x o ho => ?_, xs.eraseIdx k, ys ++ [z], _, rfl, ?_, ?_, by rw [List.length_append, hly]; rfl, ?_⟩
    · exact e10 _ _ (fun q => by rw [q, nb] at ho; cases ho) (e9 _ _ (fun q => by rw [q, nl] at ho; cases ho) (e8 _ _ (e6 _ _ ho)))
    · rw [e10 _ _ hlb h9, erase_map]
    · rw [h10, List.map_append]; rfl
    · rw [List.append_assoc]
      exact ((List.Perm.append_left ys (erase_perm hk).symm)).trans hpm
  · rintro σ H6 ⟨e6, xs, ys, y, rfl, hl6, hb6, hly, hpm⟩
    have ysub : ∀ z ∈ ys, z ∈ ss := fun z hz => hpm.subset (List.mem_append.mpr (.inl hz))
    have ynd : ys.Nodup := (List.nodup_append.mp ((hpm.nodup_iff).mpr nd)).1
    have yok := nms_strs6 (ss := ys) (m := 6) (by omega) ynd (fun z hz => nm z (ysub z hz))
    walk_at "rd"
    refine c_tak (hS.ex (t3.trans e6)) (by omega) (by omega) (fun n3 H8 c0 c1 e8 => ?_)
    walk_at "rd"
    refine c_d (fun _ => ?_) (fun _ => ?_)
    · walk_at "rd"
      refine g_tupS (sq_l (e8 _ _ hb6)) (fun r H9 n9 e9 h9 => ?_)
      walk_at "rd"
      refine c_tupE (by simp) (fun pt H10 n10 e10 h10 => ?_)
      refine q pt (.non, ys) H10 (t3.trans (e6.trans (e8.trans (e9.trans e10)))) ⟨r, h10, e10 _ _ h9, good_of rfl yok rfl⟩ (fun z hz => ysub z (by simpa [headsOf] using hz))
    · walk_at "rd"
      refine c_tak (hS.ex (t3.trans (e6.trans e8))) (by rw [List.length_map]; omega) (by rw [List.length_map]; omega) (fun n4 H9 d0 d1 e9 => ?_)
      rw [List.length_map] at d1
      obtain ⟨k, z, rfl, hk, hz, _⟩ := atI_in d0 d1
      refine g_ix_l (sq_l (e9 _ _ (e8 _ _ (e6 _ _ (t3 _ _ hp))))) (atI_nat (by rw [List.getElem?_map, hk]; rfl)) ?_
      walk_at "rd"
      refine g_tupS (sq_l (e9 _ _ (e8 _ _ hb6))) (fun r H10 n10 e10 h10 => ?_)
      walk_at "rd"
      refine c_tupE (by simp) (fun pt H11 n11 e11 h11 => ?_)
      refine q pt (.str z, ys) H11 (t3.trans (e6.trans (e8.trans (e9.trans (e10.trans e11))))) ⟨r, h11, e11 _ _ h10, good_of (by rw [Bool.or_eq_true]; exact .inr (nm z hz)) yok rfl⟩ (fun y hy => ?_)
      rcases List.mem_append.mp hy with k | k
      · have : y = z := by simpa [headsOf] using k
        rw [this]; exact hz
      · exact ysub y k

end
end K11

set_option maxHeartbeats 800000
namespace K11
open PySem PySem.Spec PyProof.Rows L2 Evl Gx
local macro_rules | `(tactic| walk_at "get") => `(tactic| first
  | assumption
  | exact upd_same
  | ((with_reducible refine sq_l ?_); walk_at "get")
  | ((with_reducible refine sq_t ?_); walk_at "get")
  | ((with_reducible refine ex_l (by assumption) ?_); walk_at "get")
  | ((with_reducible refine ex_t (by assumption) ?_); walk_at "get")
  | ((with_reducible refine Draw.ex (by assumption) ?_); walk_at "get")
  | ((with_reducible refine Arg.ex (by assumption) ?_); walk_at "get")
  | ((with_reducible refine IsRule.ex (by assumption) ?_); walk_at "get")
  | ((with_reducible refine Thing.ex (by assumption) ?_); walk_at "get")
  | ((with_reducible refine exget (by assumption) ?_); walk_at "get"))
local macro_rules | `(tactic| walk_at "rd1") => `(tactic| first
  | (with_reducible refine c_seq ?_)
  | (with_reducible refine c_next ?_)
  | (with_reducible refine c_drop ?_)
  | (with_reducible refine c_ret ?_)
  | (with_reducible refine c_retN ?_)
  | (with_reducible refine c_ifs ?_)
  | (with_reducible refine c_c ?_)
  | (with_reducible refine c_op ?_)
  | (with_reducible refine c_un ?_)
  | (with_reducible refine c_cb ?_)
  | (with_reducible refine c_nil ?_)
  | (with_reducible refine c_cons ?_)
  | (with_reducible refine c_call ?_)
  | (with_reducible refine c_callK ?_)
  | (with_reducible refine c_test ?_)
  | (with_reducible refine c_tB ?_)
  | (with_reducible refine c_and ?_)
  | (with_reducible refine c_or ?_)
  | (with_reducible refine c_not ?_)
  | (with_reducible refine c_andV ?_)
  | (with_reducible refine c_orV ?_)
  | (with_reducible refine c_notV ?_)
  | (with_reducible refine c_if ?_)
  | (with_reducible refine c_chain ?_)
  | (with_reducible refine c_sl ?_)
  | (with_reducible refine c_nop ?_)
  | (with_reducible refine c_part ?_)
  | (with_reducible refine c_lst ?_)
  | (with_reducible refine c_tup ?_)
  | (with_reducible refine c_bl ?_)
  | (with_reducible refine c_blP ?_)
  | (with_reducible refine c_parti ?_)
  | (with_reducible refine c_t ?_)
  | (with_reducible refine c_f ?_)
  | (with_reducible refine g_add_i ?_)
  | (with_reducible refine g_sub_i ?_)
  | (with_reducible refine g_neg ?_)
  | (with_reducible refine g_eq_i ?_)
  | (with_reducible refine g_eq_st ?_)
  | (with_reducible refine g_eq_b ?_)
  | (with_reducible refine g_ne_i ?_)
  | (with_reducible refine g_ne_st ?_)
  | (with_reducible refine g_ne_b ?_)
  | (with_reducible refine g_lt_i ?_)
  | (with_reducible refine g_le_i ?_)
  | (with_reducible refine g_gt_i ?_)
  | (with_reducible refine g_ge_i ?_)
  | (with_reducible refine g_le_s ?_)
  | (with_reducible refine g_in_s ?_)
  | (with_reducible refine g_ni_s ?_)
  | (with_reducible refine c_brk ?_)
  | (with_reducible refine c_cont ?_)
  | (with_reducible refine c_for ?_)
  | (with_reducible refine c_lcW ?_)
  | (with_reducible refine c_iList ?_)
  | (with_reducible refine c_iTup ?_)
  | (with_reducible refine c_iStr ?_)
  | (with_reducible refine c_iRng1 ?_)
  | (with_reducible refine c_iS ?_)
  | (with_reducible refine c_yes ?_)
  | (with_reducible refine c_sub ?_)
  | (with_reducible refine c_pair ?_)
  | (with_reducible refine c_pnil ?_)
  | (with_reducible refine c_isn ?_)
  | (with_reducible refine c_notn ?_)
  | (with_reducible refine c_sfld ?_)
  | (with_reducible refine c_fld ?_)
  | (with_reducible refine c_raise ?_)
  | (with_reducible refine c_meth0 ?_)
  | (with_reducible refine c_iEnum ?_)
  | (with_reducible refine c_bm ?_)
  | (with_reducible refine c_bm0 ?_)
  | (with_reducible refine c_mk ?_)
  | (with_reducible refine c_try ?_)
  | (with_reducible refine c_iEnumT ?_)
  | (with_reducible refine c_callKS ?_)
  | (with_reducible refine c_tryO ?_)
  | (with_reducible refine c_repl ?_)
  | (with_reducible refine c_fmt ?_)
  | (with_reducible refine c_fs ?_)
  | (with_reducible refine c_jn ?_)
  | (with_reducible refine c_jc ?_)
  | (with_reducible refine c_tru ?_)
  | (with_reducible refine c_m1 ?_)
  | (with_reducible refine c_dget ?_)
  | (with_reducible refine c_din ?_)
  | (with_reducible refine c_dni ?_)
  | (with_reducible refine c_dput ?_)
  | (with_reducible refine c_star ?_)
  | (with_reducible refine c_while ?_)
  | (with_reducible refine c_dcW ?_)
  | (with_reducible refine c_var0 ?_)
  | (with_reducible refine c_asg0 ?_)
  | (with_reducible refine c_nam0 ?_)
  | (with_reducible refine c_var1 ?_)
  | (with_reducible refine c_asg1 ?_)
  | (with_reducible refine c_nam1 ?_)
  | (with_reducible refine c_var2 ?_)
  | (with_reducible refine c_asg2 ?_)
  | (with_reducible refine c_nam2 ?_)
  | (with_reducible refine c_var3 ?_)
  | (with_reducible refine c_asg3 ?_)
  | (with_reducible refine c_nam3 ?_)
  | (with_reducible refine c_var4 ?_)
  | (with_reducible refine c_asg4 ?_)
  | (with_reducible refine c_nam4 ?_)
  | (with_reducible refine c_var5 ?_)
  | (with_reducible refine c_asg5 ?_)
  | (with_reducible refine c_nam5 ?_)
  | (with_reducible refine c_var6 ?_)
  | (with_reducible refine c_asg6 ?_)
  | (with_reducible refine c_nam6 ?_)
  | (with_reducible refine c_var7 ?_)
  | (with_reducible refine c_asg7 ?_)
  | (with_reducible refine c_nam7 ?_)
  | (with_reducible refine c_var8 ?_)
  | (with_reducible refine c_asg8 ?_)
  | (with_reducible refine c_nam8 ?_)
  | (with_reducible refine c_var9 ?_)
  | (with_reducible refine c_asg9 ?_)
  | (with_reducible refine c_nam9 ?_)
  | (with_reducible refine c_var10 ?_)
  | (with_reducible refine c_asg10 ?_)
  | (with_reducible refine c_nam10 ?_)
  | (with_reducible refine c_var11 ?_)
  | (with_reducible refine c_asg11 ?_)
  | (with_reducible refine c_nam11 ?_)
  | (with_reducible refine c_var12 ?_)
  | (with_reducible refine c_asg12 ?_)
  | (with_reducible refine c_nam12 ?_)
  | (with_reducible refine c_var13 ?_)
  | (with_reducible refine c_asg13 ?_)
  | (with_reducible refine c_nam13 ?_)
  | (with_reducible refine c_var14 ?_)
  | (with_reducible refine c_asg14 ?_)
  | (with_reducible refine c_nam14 ?_)
  | (with_reducible refine c_var15 ?_)
  | (with_reducible refine c_asg15 ?_)
  | (with_reducible refine c_nam15 ?_)
  | (with_reducible refine c_asgG ?_)
  | ((with_reducible refine g_ix_l (xs := ?gxa) (v := ?gxb) ?gx1 ?gx2 ?gx3); (case gx1 => walk_at "get"); (case gx2 => rfl))
  | ((with_reducible refine g_len_l (xs := ?gxa) (.inl ?gx1) ?gx3); (case gx1 => walk_at "get"))
  | ((with_reducible refine g_mod_i ?gx1 ?gx3); (case gx1 => omega)))
local macro_rules | `(tactic| walk_at "rd") => `(tactic| repeat walk_at "rd1")
local macro_rules | `(tactic| walk_at "rs1") => `(tactic| first
  | (with_reducible refine c_next ?_)
  | (with_reducible refine c_drop ?_)
  | (with_reducible refine c_ret ?_)
  | (with_reducible refine c_retN ?_)
  | (with_reducible refine c_ifs ?_)
  | (with_reducible refine c_c ?_)
  | (with_reducible refine c_op ?_)
  | (with_reducible refine c_un ?_)
  | (with_reducible refine c_cb ?_)
  | (with_reducible refine c_nil ?_)
  | (with_reducible refine c_cons ?_)
  | (with_reducible refine c_call ?_)
  | (with_reducible refine c_callK ?_)
  | (with_reducible refine c_test ?_)
  | (with_reducible refine c_tB ?_)
  | (with_reducible refine c_and ?_)
  | (with_reducible refine c_or ?_)
  | (with_reducible refine c_not ?_)
  | (with_reducible refine c_andV ?_)
  | (with_reducible refine c_orV ?_)
  | (with_reducible refine c_notV ?_)
  | (with_reducible refine c_chain ?_)
  | (with_reducible refine c_sl ?_)
  | (with_reducible refine c_nop ?_)
  | (with_reducible refine c_part ?_)
  | (with_reducible refine c_lst ?_)
  | (with_reducible refine c_tup ?_)
  | (with_reducible refine c_bl ?_)
  | (with_reducible refine c_blP ?_)
  | (with_reducible refine c_parti ?_)
  | (with_reducible refine c_t ?_)
  | (with_reducible refine c_f ?_)
  | (with_reducible refine g_add_i ?_)
  | (with_reducible refine g_sub_i ?_)
  | (with_reducible refine g_neg ?_)
  | (with_reducible refine g_eq_i ?_)
  | (with_reducible refine g_eq_st ?_)
  | (with_reducible refine g_eq_b ?_)
  | (with_reducible refine g_ne_i ?_)
  | (with_reducible refine g_ne_st ?_)
  | (with_reducible refine g_ne_b ?_)
  | (with_reducible refine g_lt_i ?_)
  | (with_reducible refine g_le_i ?_)
  | (with_reducible refine g_gt_i ?_)
  | (with_reducible refine g_ge_i ?_)
  | (with_reducible refine g_le_s ?_)
  | (with_reducible refine g_in_s ?_)
  | (with_reducible refine g_ni_s ?_)
  | (with_reducible refine c_brk ?_)
  | (with_reducible refine c_cont ?_)
  | (with_reducible refine c_for ?_)
  | (with_reducible refine c_lcW ?_)
  | (with_reducible refine c_iList ?_)
  | (with_reducible refine c_iTup ?_)
  | (with_reducible refine c_iStr ?_)
  | (with_reducible refine c_iRng1 ?_)
  | (with_reducible refine c_iS ?_)
  | (with_reducible refine c_yes ?_)
  | (with_reducible refine c_sub ?_)
  | (with_reducible refine c_pair ?_)
  | (with_reducible refine c_pnil ?_)
  | (with_reducible refine c_isn ?_)
  | (with_reducible refine c_notn ?_)
  | (with_reducible refine c_sfld ?_)
  | (with_reducible refine c_fld ?_)
  | (with_reducible refine c_raise ?_)
  | (with_reducible refine c_meth0 ?_)
  | (with_reducible refine c_iEnum ?_)
  | (with_reducible refine c_bm ?_)
  | (with_reducible refine c_bm0 ?_)
  | (with_reducible refine c_mk ?_)
  | (with_reducible refine c_try ?_)
  | (with_reducible refine c_iEnumT ?_)
  | (with_reducible refine c_callKS ?_)
  | (with_reducible refine c_tryO ?_)
  | (with_reducible refine c_repl ?_)
  | (with_reducible refine c_fmt ?_)
  | (with_reducible refine c_fs ?_)
  | (with_reducible refine c_jn ?_)
  | (with_reducible refine c_jc ?_)
  | (with_reducible refine c_tru ?_)
  | (with_reducible refine c_m1 ?_)
  | (with_reducible refine c_dget ?_)
  | (with_reducible refine c_din ?_)
  | (with_reducible refine c_dni ?_)
  | (with_reducible refine c_dput ?_)
  | (with_reducible refine c_star ?_)
  | (with_reducible refine c_while ?_)
  | (with_reducible refine c_dcW ?_)
  | (with_reducible refine c_var0 ?_)
  | (with_reducible refine c_asg0 ?_)
  | (with_reducible refine c_nam0 ?_)
  | (with_reducible refine c_var1 ?_)
  | (with_reducible refine c_asg1 ?_)
  | (with_reducible refine c_nam1 ?_)
  | (with_reducible refine c_var2 ?_)
  | (with_reducible refine c_asg2 ?_)
  | (with_reducible refine c_nam2 ?_)
  | (with_reducible refine c_var3 ?_)
  | (with_reducible refine c_asg3 ?_)
  | (with_reducible refine c_nam3 ?_)
  | (with_reducible refine c_var4 ?_)
  | (with_reducible refine c_asg4 ?_)
  | (with_reducible refine c_nam4 ?_)
  | (with_reducible refine c_var5 ?_)
  | (with_reducible refine c_asg5 ?_)
  | (with_reducible refine c_nam5 ?_)
  | (with_reducible refine c_var6 ?_)
  | (with_reducible refine c_asg6 ?_)
  | (with_reducible refine c_nam6 ?_)
  | (with_reducible refine c_var7 ?_)
  | (with_reducible refine c_asg7 ?_)
  | (with_reducible refine c_nam7 ?_)
  | (with_reducible refine c_var8 ?_)
  | (with_reducible refine c_asg8 ?_)
  | (with_reducible refine c_nam8 ?_)
  | (with_reducible refine c_var9 ?_)
  | (with_reducible refine c_asg9 ?_)
  | (with_reducible refine c_nam9 ?_)
  | (with_reducible refine c_var10 ?_)
  | (with_reducible refine c_asg10 ?_)
  | (with_reducible refine c_nam10 ?_)
  | (with_reducible refine c_var11 ?_)
  | (with_reducible refine c_asg11 ?_)
  | (with_reducible refine c_nam11 ?_)
  | (with_reducible refine c_var12 ?_)
  | (with_reducible refine c_asg12 ?_)
  | (with_reducible refine c_nam12 ?_)
  | (with_reducible refine c_var13 ?_)
  | (with_reducible refine c_asg13 ?_)
  | (with_reducible refine c_nam13 ?_)
  | (with_reducible refine c_var14 ?_)
  | (with_reducible refine c_asg14 ?_)
  | (with_reducible refine c_nam14 ?_)
  | (with_reducible refine c_var15 ?_)
  | (with_reducible refine c_asg15 ?_)
  | (with_reducible refine c_nam15 ?_)
  | (with_reducible refine c_asgG ?_)
  | ((with_reducible refine g_ix_l (xs := ?gxa) (v := ?gxb) ?gx1 ?gx2 ?gx3); (case gx1 => walk_at "get"); (case gx2 => rfl))
  | ((with_reducible refine g_len_l (xs := ?gxa) (.inl ?gx1) ?gx3); (case gx1 => walk_at "get"))
  | ((with_reducible refine g_mod_i ?gx1 ?gx3); (case gx1 => omega)))
local macro_rules | `(tactic| walk_at "rs") => `(tactic| repeat walk_at "rs1")
section
variable {P : Program} {w : World} {K : PySem.W.Frag} {mg : Str → Option Value} {base : Heap} {Z : Ads}
theorem PairAt.keep {H H' : Hp} {t : Addr} {r : PR} (k : ∀ x xs, H x = some (.tup xs) → H' x = some (.tup xs)) (h : PairAt H t r) : PairAt H' t r := by
  obtain ⟨b, h1, h2, h3⟩ := h
  exact ⟨b, k _ _ h1, k _ _ h2, h3⟩
theorem PsAt.keep {H H' : Hp} (k : ∀ x xs, H x = some (.tup xs) → H' x = some (.tup xs)) : ∀ {ts : List Addr} {rs : List PR}, PsAt H ts rs → PsAt H' ts rs
  | [], [], _ => trivial
  | _ :: _, _ :: _, ⟨h1, h2⟩ => ⟨h1.keep k, PsAt.keep k h2⟩
  | [], _ :: _, h => h.elim
  | _ :: _, [], h => h.elim
theorem PsAt.snoc {H : Hp} {t : Addr} {r : PR} (h2 : PairAt H t r) : ∀ {ts : List Addr} {rs : List PR}, PsAt H ts rs → PsAt H (ts ++ [t]) (rs ++ [r])
  | [], [], _ => ⟨h2, trivial⟩
  | _ :: _, _ :: _, ⟨h1, h⟩ => ⟨h1, PsAt.snoc h2 h⟩
  | [], _ :: _, h => h.elim
  | _ :: _, [], h => h.elim
theorem PsAt.len {H : Hp} : ∀ {ts : List Addr} {rs : List PR}, PsAt H ts rs → ts.length = rs.length
  | [], [], _ => rfl
  | _ :: _, _ :: _, ⟨_, h⟩ => congrArg (· + 1) (PsAt.len h)
  | [], _ :: _, h => h.elim
  | _ :: _, [], h => h.elim
theorem PsAt.get {H : Hp} : ∀ {ts : List Addr} {rs : List PR} {i : Nat} {t : Addr}, PsAt H ts rs → ts[i]? = some t → ∃ r, rs[i]? = some r ∧ PairAt H t r
  | _ :: _, r :: _, 0, _, ⟨h1, _⟩, e => by cases e; exact ⟨r, rfl, h1⟩
  | _ :: _, _ :: _, i + 1, _, ⟨_, h⟩, e => PsAt.get (i := i) h e
  | [], [], _, _, _, e => by cases e
  | [], _ :: _, _, _, h, _ => h.elim
  | _ :: _, [], _, _, h, _ => h.elim
theorem names_snoc (rs : List PR) (r : PR) : namesOf (rs ++ [r]) = namesOf rs ++ (headsOf r.1 ++ r.2) := by
  unfold Gx.namesOf; rw [List.flatMap_append]; simp
theorem updT {D : Addr} {H' : Hp} {acc : List V} {o : HO} (h : H' D = some (.lst acc)) : ∀ x xs, H' x = some (.tup xs) → upd H' D o x = some (.tup xs) := fun x xs e => by
  rw [upd_ne fun k => by rw [k, h] at e; cases e]; exact e
theorem rd__law_pairs {vs : List V} {H : Hp} {Q : VK} {E : XK} (h : sp__law_pairs P w K vs H Q E) : t__law_pairs P w K Z { nx := fun _ H' => Q .non H', rt := Q } (start ["state", "names", "most", "k"] vs) H := by
  obtain ⟨st, p, ss, m, rfl, hS, hp, nm, nd, l1, l2, hm, q⟩ := h
  show t__law_pairs P w K Z _ [some (.ref st), some (.ref p), some (.int (m : Nat)), none] H
  unfold t__law_pairs
  walk_at "rd"
  refine c_tak hS (by omega) (by omega) (fun n1 H1 a0 a1 e1 => ?_)
  walk_at "rd"
  refine c_iR1 (by omega) (by omega) ?_
  refine lc_inv walk_range (fun D i acc H' => Ex H1 H' ∧ ∃ (ts : List Addr) (rs : List PR), acc = ts.map V.ref ∧ rs.length = i ∧ PsAt H' ts rs ∧ (∀ z ∈ namesOf rs, z ∈ ss)) (σ0 := [some (.ref st), some (.ref p), some (.int (m : Nat)), none]) rfl (by omega) ?_ (fun _ _ _ _ _ => trivial) ?_ ?_
  · intro D hD
    exact ⟨Ex.new hD, [], [], rfl, rfl, trivial, by simp [Gx.namesOf]⟩
  · rintro D i acc x H2 H3 Q1 Q0 hD hi ⟨e2, ts, rs, rfl, hl, hP, hN⟩ hacc _ ⟨rfl, rfl⟩ k1 _
    walk_at "rd"
    refine ⟨rfl, ?_⟩
    walk_at "rd"
    refine ⟨st, p, ss, rfl, hS.ex (e1.trans e2), e2 _ _ (e1 _ _ hp), nm, nd, l1, l2, fun t r H4 e4 h4 hr => ?_⟩
    have hD4 := e4 _ _ hacc
    refine k1 _ _ hD4 ⟨fun x o ho => ?_, ts ++ [t], rs ++ [r], by rw [List.map_append]; rfl, by rw [List.length_append, hl]; rfl, ?_, ?_⟩
    · rw [keepD hD ho]; exact e4 _ _ (e2 _ _ ho)
    · exact (PsAt.snoc h4 (PsAt.keep (fun _ _ h => e4 _ _ h) hP)).keep (updT hD4)
    · intro z hz
      rw [names_snoc] at hz
      rcases List.mem_append.mp hz with k | k
      · exact hN z k
      · exact hr z k
  · rintro D H2 xs hD ⟨e2, ts, rs, rfl, hl, hP, hN⟩ _ h2
    exact q D ts rs H2 (e1.trans e2) h2 hP (by omega) hN
theorem rd__law_some {vs : List V} {H : Hp} {Q : VK} {E : XK} (h : sp__law_some P w K vs H Q E) : t__law_some P w K Z { nx := fun _ H' => Q .non H', rt := Q } (start ["state", "names", "left", "k"] vs) H := by
  obtain ⟨st, p, ss, rfl, hS, hp, nd, l2, q⟩ := h
  show t__law_some P w K Z _ [some (.ref st), some (.ref p), none, none] H
  unfold t__law_some
  walk_at "rd"
  refine g_listS (.inl (sq_l hp)) (fun pl H1 n1 e1 h1 => ?_)
  walk_at "rd"
  have nl : H pl = none := n1
  refine c_tak (hS.ex e1) (by rw [List.length_map]; omega) (by rw [List.length_map]; omega) (fun n2 H2 a0 a1 e2 => ?_)
  rw [List.length_map] at a1
  walk_at "rd"
  refine c_iR1 (by omega) (by omega) ?_
  refine lc_inv walk_range (fun D i acc H' => D ≠ pl ∧ Ex H H' ∧ ∃ (xs ys : List Str), acc = ys.map V.str ∧ ys.length = i ∧ H' pl = some (.lst (xs.map V.str)) ∧ (ys ++ xs).Perm ss) (σ0 := [some (.ref st), some (.ref p), some (.ref pl), none]) rfl (by omega) ?_ (fun _ _ _ _ _ => trivial) ?_ ?_
  · intro D hD
    have h2 := e2 _ _ h1
    exact ⟨fun k => (by rw [k, h2] at hD; cases hD), (e1.trans e2).trans (Ex.new hD), ss, [], rfl, rfl, by rw [keepD hD h2]; exact h2, List.Perm.refl _⟩
  · rintro D i acc x H3 H4 Q1 Q0 hD hi ⟨hne, e3, xs, ys, rfl, hl, h3, hpm⟩ hacc _ ⟨rfl, rfl⟩ k1 _
    have hlen := hpm.length_eq
    rw [List.length_append] at hlen
    walk_at "rd"
    refine ⟨rfl, ?_⟩
    walk_at "rd"
    refine ⟨ty_l h3, ?_⟩
    walk_at "rd"
    refine c_tak (hS.ex e3) (by rw [List.length_map]; omega) (by rw [List.length_map]; omega) (fun n3 H5 c0 c1 e5 => ?_)
    rw [List.length_map] at c1
    obtain ⟨k, z, rfl, hk, hz, _⟩ := atI_in c0 c1
    walk_at "rd"
    refine g_popAt (e5 _ _ h3) rfl (y := .str z) (by rw [List.getElem?_map, hk]; rfl) (by rw [List.length_map]; omega) (fun H6 e6 h6 => ?_)
    have hD6 := e6 _ _ hne (e5 _ _ hacc)
    refine k1 _ _ hD6 ⟨hne, fun x o ho => ?_, xs.eraseIdx k, ys ++ [z], by rw [List.map_append]; rfl, by rw [List.length_append, hl]; rfl, ?_, ?_⟩
    · have hDx : x ≠ D := fun q => by
        have : H2 x = some o := e2 _ _ (e1 _ _ ho)
        rw [q, hD] at this; cases this
      rw [upd_ne hDx]
      exact e6 _ _ (fun q => by rw [q, nl] at ho; cases ho) (e5 _ _ (e3 _ _ ho))
    · rw [upd_ne (Ne.symm hne), h6, erase_map]
    · rw [List.append_assoc]
      exact ((List.Perm.append_left ys (erase_perm hk).symm)).trans hpm
  · rintro D H3 xs hD ⟨hne, e3, xs, ys, rfl, hl, h3, hpm⟩ _ h4
    exact q ys D H3 e3 h4 (List.nodup_append.mp ((hpm.nodup_iff).mpr nd)).1 (fun z hz => hpm.subset (List.mem_append.mpr (.inl hz)))

end
end K11

set_option maxHeartbeats 800000
namespace K11
open PySem PySem.Spec PyProof.Rows L2 Evl Gx
local macro_rules | `(tactic| walk_at "get") => `(tactic| first
  | assumption
  | exact upd_same
  | ((with_reducible refine sq_l ?_); walk_at "get")
  | ((with_reducible refine sq_t ?_); walk_at "get")
  | ((with_reducible refine ex_l (by assumption) ?_); walk_at "get")
  | ((with_reducible refine ex_t (by assumption) ?_); walk_at "get")
  | ((with_reducible refine Draw.ex (by assumption) ?_); walk_at "get")
  | ((with_reducible refine Arg.ex (by assumption) ?_); walk_at "get")
  | ((with_reducible refine IsRule.ex (by assumption) ?_); walk_at "get")
  | ((with_reducible refine Thing.ex (by assumption) ?_); walk_at "get")
  | ((with_reducible refine exget (by assumption) ?_); walk_at "get"))
local macro_rules | `(tactic| walk_at "rd1") => `(tactic| first
  | (with_reducible refine c_seq ?_)
  | (with_reducible refine c_next ?_)
  | (with_reducible refine c_drop ?_)
  | (with_reducible refine c_ret ?_)
  | (with_reducible refine c_retN ?_)
  | (with_reducible refine c_ifs ?_)
  | (with_reducible refine c_c ?_)
  | (with_reducible refine c_op ?_)
  | (with_reducible refine c_un ?_)
  | (with_reducible refine c_cb ?_)
  | (with_reducible refine c_nil ?_)
  | (with_reducible refine c_cons ?_)
  | (with_reducible refine c_call ?_)
  | (with_reducible refine c_callK ?_)
  | (with_reducible refine c_test ?_)
  | (with_reducible refine c_tB ?_)
  | (with_reducible refine c_and ?_)
  | (with_reducible refine c_or ?_)
  | (with_reducible refine c_not ?_)
  | (with_reducible refine c_andV ?_)
  | (with_reducible refine c_orV ?_)
  | (with_reducible refine c_notV ?_)
  | (with_reducible refine c_if ?_)
  | (with_reducible refine c_chain ?_)
  | (with_reducible refine c_sl ?_)
  | (with_reducible refine c_nop ?_)
  | (with_reducible refine c_part ?_)
  | (with_reducible refine c_lst ?_)
  | (with_reducible refine c_tup ?_)
  | (with_reducible refine c_bl ?_)
  | (with_reducible refine c_blP ?_)
  | (with_reducible refine c_parti ?_)
  | (with_reducible refine c_t ?_)
  | (with_reducible refine c_f ?_)
  | (with_reducible refine g_add_i ?_)
  | (with_reducible refine g_sub_i ?_)
  | (with_reducible refine g_neg ?_)
  | (with_reducible refine g_eq_i ?_)
  | (with_reducible refine g_eq_st ?_)
  | (with_reducible refine g_eq_b ?_)
  | (with_reducible refine g_ne_i ?_)
  | (with_reducible refine g_ne_st ?_)
  | (with_reducible refine g_ne_b ?_)
  | (with_reducible refine g_lt_i ?_)
  | (with_reducible refine g_le_i ?_)
  | (with_reducible refine g_gt_i ?_)
  | (with_reducible refine g_ge_i ?_)
  | (with_reducible refine g_le_s ?_)
  | (with_reducible refine g_in_s ?_)
  | (with_reducible refine g_ni_s ?_)
  | (with_reducible refine c_brk ?_)
  | (with_reducible refine c_cont ?_)
  | (with_reducible refine c_for ?_)
  | (with_reducible refine c_lcW ?_)
  | (with_reducible refine c_iList ?_)
  | (with_reducible refine c_iTup ?_)
  | (with_reducible refine c_iStr ?_)
  | (with_reducible refine c_iRng1 ?_)
  | (with_reducible refine c_iS ?_)
  | (with_reducible refine c_yes ?_)
  | (with_reducible refine c_sub ?_)
  | (with_reducible refine c_pair ?_)
  | (with_reducible refine c_pnil ?_)
  | (with_reducible refine c_isn ?_)
  | (with_reducible refine c_notn ?_)
  | (with_reducible refine c_sfld ?_)
  | (with_reducible refine c_fld ?_)
  | (with_reducible refine c_raise ?_)
  | (with_reducible refine c_meth0 ?_)
  | (with_reducible refine c_iEnum ?_)
  | (with_reducible refine c_bm ?_)
  | (with_reducible refine c_bm0 ?_)
  | (with_reducible refine c_mk ?_)
  | (with_reducible refine c_try ?_)
  | (with_reducible refine c_iEnumT ?_)
  | (with_reducible refine c_callKS ?_)
  | (with_reducible refine c_tryO ?_)
  | (with_reducible refine c_repl ?_)
  | (with_reducible refine c_fmt ?_)
  | (with_reducible refine c_fs ?_)
  | (with_reducible refine c_jn ?_)
  | (with_reducible refine c_jc ?_)
  | (with_reducible refine c_tru ?_)
  | (with_reducible refine c_m1 ?_)
  | (with_reducible refine c_dget ?_)
  | (with_reducible refine c_din ?_)
  | (with_reducible refine c_dni ?_)
  | (with_reducible refine c_dput ?_)
  | (with_reducible refine c_star ?_)
  | (with_reducible refine c_while ?_)
  | (with_reducible refine c_dcW ?_)
  | (with_reducible refine c_var0 ?_)
  | (with_reducible refine c_asg0 ?_)
  | (with_reducible refine c_nam0 ?_)
  | (with_reducible refine c_var1 ?_)
  | (with_reducible refine c_asg1 ?_)
  | (with_reducible refine c_nam1 ?_)
  | (with_reducible refine c_var2 ?_)
  | (with_reducible refine c_asg2 ?_)
  | (with_reducible refine c_nam2 ?_)
  | (with_reducible refine c_var3 ?_)
  | (with_reducible refine c_asg3 ?_)
  | (with_reducible refine c_nam3 ?_)
  | (with_reducible refine c_var4 ?_)
  | (with_reducible refine c_asg4 ?_)
  | (with_reducible refine c_nam4 ?_)
  | (with_reducible refine c_var5 ?_)
  | (with_reducible refine c_asg5 ?_)
  | (with_reducible refine c_nam5 ?_)
  | (with_reducible refine c_var6 ?_)
  | (with_reducible refine c_asg6 ?_)
  | (with_reducible refine c_nam6 ?_)
  | (with_reducible refine c_var7 ?_)
  | (with_reducible refine c_asg7 ?_)
  | (with_reducible refine c_nam7 ?_)
  | (with_reducible refine c_var8 ?_)
  | (with_reducible refine c_asg8 ?_)
  | (with_reducible refine c_nam8 ?_)
  | (with_reducible refine c_var9 ?_)
  | (with_reducible refine c_asg9 ?_)
  | (with_reducible refine c_nam9 ?_)
  | (with_reducible refine c_var10 ?_)
  | (with_reducible refine c_asg10 ?_)
  | (with_reducible refine c_nam10 ?_)
  | (with_reducible refine c_var11 ?_)
  | (with_reducible refine c_asg11 ?_)
  | (with_reducible refine c_nam11 ?_)
  | (with_reducible refine c_var12 ?_)
  | (with_reducible refine c_asg12 ?_)
  | (with_reducible refine c_nam12 ?_)
  | (with_reducible refine c_var13 ?_)
  | (with_reducible refine c_asg13 ?_)
  | (with_reducible refine c_nam13 ?_)
  | (with_reducible refine c_var14 ?_)
  | (with_reducible refine c_asg14 ?_)
  | (with_reducible refine c_nam14 ?_)
  | (with_reducible refine c_var15 ?_)
  | (with_reducible refine c_asg15 ?_)
  | (with_reducible refine c_nam15 ?_)
  | (with_reducible refine c_asgG ?_)
  | ((with_reducible refine g_ix_l (xs := ?gxa) (v := ?gxb) ?gx1 ?gx2 ?gx3); (case gx1 => walk_at "get"); (case gx2 => rfl))
  | ((with_reducible refine g_len_l (xs := ?gxa) (.inl ?gx1) ?gx3); (case gx1 => walk_at "get"))
  | ((with_reducible refine g_mod_i ?gx1 ?gx3); (case gx1 => omega)))
local macro_rules | `(tactic| walk_at "rd") => `(tactic| repeat walk_at "rd1")
local macro_rules | `(tactic| walk_at "rs1") => `(tactic| first
  | (with_reducible refine c_next ?_)
  | (with_reducible refine c_drop ?_)
  | (with_reducible refine c_ret ?_)
  | (with_reducible refine c_retN ?_)
  | (with_reducible refine c_ifs ?_)
  | (with_reducible refine c_c ?_)
  | (with_reducible refine c_op ?_)
  | (with_reducible refine c_un ?_)
  | (with_reducible refine c_cb ?_)
  | (with_reducible refine c_nil ?_)
  | (with_reducible refine c_cons ?_)
  | (with_reducible refine c_call ?_)
  | (with_reducible refine c_callK ?_)
  | (with_reducible refine c_test ?_)
  | (with_reducible refine c_tB ?_)
  | (with_reducible refine c_and ?_)
  | (with_reducible refine c_or ?_)
  | (with_reducible refine c_not ?_)
  | (with_reducible refine c_andV ?_)
  | (with_reducible refine c_orV ?_)
  | (with_reducible refine c_notV ?_)
  | (with_reducible refine c_chain ?_)
  | (with_reducible refine c_sl ?_)
  | (with_reducible refine c_nop ?_)
  | (with_reducible refine c_part ?_)
  | (with_reducible refine c_lst ?_)
  | (with_reducible refine c_tup ?_)
  | (with_reducible refine c_bl ?_)
  | (with_reducible refine c_blP ?_)
  | (with_reducible refine c_parti ?_)
  | (with_reducible refine c_t ?_)
  | (with_reducible refine c_f ?_)
  | (with_reducible refine g_add_i ?_)
  | (with_reducible refine g_sub_i ?_)
  | (with_reducible refine g_neg ?_)
  | (with_reducible refine g_eq_i ?_)
  | (with_reducible refine g_eq_st ?_)
  | (with_reducible refine g_eq_b ?_)
  | (with_reducible refine g_ne_i ?_)
  | (with_reducible refine g_ne_st ?_)
  | (with_reducible refine g_ne_b ?_)
  | (with_reducible refine g_lt_i ?_)
  | (with_reducible refine g_le_i ?_)
  | (with_reducible refine g_gt_i ?_)
  | (with_reducible refine g_ge_i ?_)
  | (with_reducible refine g_le_s ?_)
  | (with_reducible refine g_in_s ?_)
  | (with_reducible refine g_ni_s ?_)
  | (with_reducible refine c_brk ?_)
  | (with_reducible refine c_cont ?_)
  | (with_reducible refine c_for ?_)
  | (with_reducible refine c_lcW ?_)
  | (with_reducible refine c_iList ?_)
  | (with_reducible refine c_iTup ?_)
  | (with_reducible refine c_iStr ?_)
  | (with_reducible refine c_iRng1 ?_)
  | (with_reducible refine c_iS ?_)
  | (with_reducible refine c_yes ?_)
  | (with_reducible refine c_sub ?_)
  | (with_reducible refine c_pair ?_)
  | (with_reducible refine c_pnil ?_)
  | (with_reducible refine c_isn ?_)
  | (with_reducible refine c_notn ?_)
  | (with_reducible refine c_sfld ?_)
  | (with_reducible refine c_fld ?_)
  | (with_reducible refine c_raise ?_)
  | (with_reducible refine c_meth0 ?_)
  | (with_reducible refine c_iEnum ?_)
  | (with_reducible refine c_bm ?_)
  | (with_reducible refine c_bm0 ?_)
  | (with_reducible refine c_mk ?_)
  | (with_reducible refine c_try ?_)
  | (with_reducible refine c_iEnumT ?_)
  | (with_reducible refine c_callKS ?_)
  | (with_reducible refine c_tryO ?_)
  | (with_reducible refine c_repl ?_)
  | (with_reducible refine c_fmt ?_)
  | (with_reducible refine c_fs ?_)
  | (with_reducible refine c_jn ?_)
  | (with_reducible refine c_jc ?_)
  | (with_reducible refine c_tru ?_)
  | (with_reducible refine c_m1 ?_)
  | (with_reducible refine c_dget ?_)
  | (with_reducible refine c_din ?_)
  | (with_reducible refine c_dni ?_)
  | (with_reducible refine c_dput ?_)
  | (with_reducible refine c_star ?_)
  | (with_reducible refine c_while ?_)
  | (with_reducible refine c_dcW ?_)
  | (with_reducible refine c_var0 ?_)
  | (with_reducible refine c_asg0 ?_)
  | (with_reducible refine c_nam0 ?_)
  | (with_reducible refine c_var1 ?_)
  | (with_reducible refine c_asg1 ?_)
  | (with_reducible refine c_nam1 ?_)
  | (with_reducible refine c_var2 ?_)
  | (with_reducible refine c_asg2 ?_)
  | (with_reducible refine c_nam2 ?_)
  | (with_reducible refine c_var3 ?_)
  | (with_reducible refine c_asg3 ?_)
  | (with_reducible refine c_nam3 ?_)
  | (with_reducible refine c_var4 ?_)
  | (with_reducible refine c_asg4 ?_)
  | (with_reducible refine c_nam4 ?_)
  | (with_reducible refine c_var5 ?_)
  | (with_reducible refine c_asg5 ?_)
  | (with_reducible refine c_nam5 ?_)
  | (with_reducible refine c_var6 ?_)
  | (with_reducible refine c_asg6 ?_)
  | (with_reducible refine c_nam6 ?_)
  | (with_reducible refine c_var7 ?_)
  | (with_reducible refine c_asg7 ?_)
  | (with_reducible refine c_nam7 ?_)
  | (with_reducible refine c_var8 ?_)
  | (with_reducible refine c_asg8 ?_)
  | (with_reducible refine c_nam8 ?_)
  | (with_reducible refine c_var9 ?_)
  | (with_reducible refine c_asg9 ?_)
  | (with_reducible refine c_nam9 ?_)
  | (with_reducible refine c_var10 ?_)
  | (with_reducible refine c_asg10 ?_)
  | (with_reducible refine c_nam10 ?_)
  | (with_reducible refine c_var11 ?_)
  | (with_reducible refine c_asg11 ?_)
  | (with_reducible refine c_nam11 ?_)
  | (with_reducible refine c_var12 ?_)
  | (with_reducible refine c_asg12 ?_)
  | (with_reducible refine c_nam12 ?_)
  | (with_reducible refine c_var13 ?_)
  | (with_reducible refine c_asg13 ?_)
  | (with_reducible refine c_nam13 ?_)
  | (with_reducible refine c_var14 ?_)
  | (with_reducible refine c_asg14 ?_)
  | (with_reducible refine c_nam14 ?_)
  | (with_reducible refine c_var15 ?_)
  | (with_reducible refine c_asg15 ?_)
  | (with_reducible refine c_nam15 ?_)
  | (with_reducible refine c_asgG ?_)
  | ((with_reducible refine g_ix_l (xs := ?gxa) (v := ?gxb) ?gx1 ?gx2 ?gx3); (case gx1 => walk_at "get"); (case gx2 => rfl))
  | ((with_reducible refine g_len_l (xs := ?gxa) (.inl ?gx1) ?gx3); (case gx1 => walk_at "get"))
  | ((with_reducible refine g_mod_i ?gx1 ?gx3); (case gx1 => omega)))
local macro_rules | `(tactic| walk_at "rs") => `(tactic| repeat walk_at "rs1")
section
variable {P : Program} {w : World} {K : PySem.W.Frag} {mg : Str → Option Value} {base : Heap} {Z : Ads}
theorem rd_Rule_told {vs : List V} {H : Hp} {Q : VK} {E : XK} (R : RuleC K Z.Rule) (h : sp_Rule_told K Z vs H Q E) : t_Rule_told K Z { nx := fun _ H' => Q .non H', rt := Q } (start ["self"] vs) H := by
  obtain ⟨a, h, bd, us, rfl, ⟨dx, pb, pu, ha, hb, hu, -⟩, q⟩ := h
  show t_Rule_told K Z _ [some (.ref a)] H
  unfold t_Rule_told
  walk_at "rd"
  refine g_fld ha R.cls R.nh rfl ?_
  walk_at "rd"
  refine g_fld ha R.cls R.nb rfl ?_
  walk_at "rd"
  refine g_fld ha R.cls R.nu rfl ?_
  walk_at "rd"
  refine c_tupE (by simp) (fun p H1 n1 e1 h1 => ?_)
  exact q p pb pu H1 e1 h1 (ex_t e1 hb) (ex_t e1 hu)

end
end K11

set_option maxHeartbeats 800000
namespace K11
open PySem PySem.Spec PyProof.Rows L2 Evl Gx
local macro_rules | `(tactic| walk_at "get") => `(tactic| first
  | assumption
  | exact upd_same
  | ((with_reducible refine sq_l ?_); walk_at "get")
  | ((with_reducible refine sq_t ?_); walk_at "get")
  | ((with_reducible refine ex_l (by assumption) ?_); walk_at "get")
  | ((with_reducible refine ex_t (by assumption) ?_); walk_at "get")
  | ((with_reducible refine Draw.ex (by assumption) ?_); walk_at "get")
  | ((with_reducible refine Arg.ex (by assumption) ?_); walk_at "get")
  | ((with_reducible refine IsRule.ex (by assumption) ?_); walk_at "get")
  | ((with_reducible refine Thing.ex (by assumption) ?_); walk_at "get")
  | ((with_reducible refine exget (by assumption) ?_); walk_at "get"))
local macro_rules | `(tactic| walk_at "rd1") => `(tactic| first
  | (with_reducible refine c_seq ?_)
  | (with_reducible refine c_next ?_)
  | (with_reducible refine c_drop ?_)
  | (with_reducible refine c_ret ?_)
  | (with_reducible refine c_retN ?_)
  | (with_reducible refine c_ifs ?_)
  | (with_reducible refine c_c ?_)
  | (with_reducible refine c_op ?_)
  | (with_reducible refine c_un ?_)
  | (with_reducible refine c_cb ?_)
  | (with_reducible refine c_nil ?_)
  | (with_reducible refine c_cons ?_)
  | (with_reducible refine c_call ?_)
  | (with_reducible refine c_callK ?_)
  | (with_reducible refine c_test ?_)
  | (with_reducible refine c_tB ?_)
  | (with_reducible refine c_and ?_)
  | (with_reducible refine c_or ?_)
  | (with_reducible refine c_not ?_)
  | (with_reducible refine c_andV ?_)
  | (with_reducible refine c_orV ?_)
  | (with_reducible refine c_notV ?_)
  | (with_reducible refine c_if ?_)
  | (with_reducible refine c_chain ?_)
  | (with_reducible refine c_sl ?_)
  | (with_reducible refine c_nop ?_)
  | (with_reducible refine c_part ?_)
  | (with_reducible refine c_lst ?_)
  | (with_reducible refine c_tup ?_)
  | (with_reducible refine c_bl ?_)
  | (with_reducible refine c_blP ?_)
  | (with_reducible refine c_parti ?_)
  | (with_reducible refine c_t ?_)
  | (with_reducible refine c_f ?_)
  | (with_reducible refine g_add_i ?_)
  | (with_reducible refine g_sub_i ?_)
  | (with_reducible refine g_neg ?_)
  | (with_reducible refine g_eq_i ?_)
  | (with_reducible refine g_eq_st ?_)
  | (with_reducible refine g_eq_b ?_)
  | (with_reducible refine g_ne_i ?_)
  | (with_reducible refine g_ne_st ?_)
  | (with_reducible refine g_ne_b ?_)
  | (with_reducible refine g_lt_i ?_)
  | (with_reducible refine g_le_i ?_)
  | (with_reducible refine g_gt_i ?_)
  | (with_reducible refine g_ge_i ?_)
  | (with_reducible refine g_le_s ?_)
  | (with_reducible refine g_in_s ?_)
  | (with_reducible refine g_ni_s ?_)
  | (with_reducible refine c_brk ?_)
  | (with_reducible refine c_cont ?_)
  | (with_reducible refine c_for ?_)
  | (with_reducible refine c_lcW ?_)
  | (with_reducible refine c_iList ?_)
  | (with_reducible refine c_iTup ?_)
  | (with_reducible refine c_iStr ?_)
  | (with_reducible refine c_iRng1 ?_)
  | (with_reducible refine c_iS ?_)
  | (with_reducible refine c_yes ?_)
  | (with_reducible refine c_sub ?_)
  | (with_reducible refine c_pair ?_)
  | (with_reducible refine c_pnil ?_)
  | (with_reducible refine c_isn ?_)
  | (with_reducible refine c_notn ?_)
  | (with_reducible refine c_sfld ?_)
  | (with_reducible refine c_fld ?_)
  | (with_reducible refine c_raise ?_)
  | (with_reducible refine c_meth0 ?_)
  | (with_reducible refine c_iEnum ?_)
  | (with_reducible refine c_bm ?_)
  | (with_reducible refine c_bm0 ?_)
  | (with_reducible refine c_mk ?_)
  | (with_reducible refine c_try ?_)
  | (with_reducible refine c_iEnumT ?_)
  | (with_reducible refine c_callKS ?_)
  | (with_reducible refine c_tryO ?_)
  | (with_reducible refine c_repl ?_)
  | (with_reducible refine c_fmt ?_)
  | (with_reducible refine c_fs ?_)
  | (with_reducible refine c_jn ?_)
  | (with_reducible refine c_jc ?_)
  | (with_reducible refine c_tru ?_)
  | (with_reducible refine c_m1 ?_)
  | (with_reducible refine c_dget ?_)
  | (with_reducible refine c_din ?_)
  | (with_reducible refine c_dni ?_)
  | (with_reducible refine c_dput ?_)
  | (with_reducible refine c_star ?_)
  | (with_reducible refine c_while ?_)
  | (with_reducible refine c_dcW ?_)
  | (with_reducible refine c_var0 ?_)
  | (with_reducible refine c_asg0 ?_)
  | (with_reducible refine c_nam0 ?_)
  | (with_reducible refine c_var1 ?_)
  | (with_reducible refine c_asg1 ?_)
  | (with_reducible refine c_nam1 ?_)
  | (with_reducible refine c_var2 ?_)
  | (with_reducible refine c_asg2 ?_)
  | (with_reducible refine c_nam2 ?_)
  | (with_reducible refine c_var3 ?_)
  | (with_reducible refine c_asg3 ?_)
  | (with_reducible refine c_nam3 ?_)
  | (with_reducible refine c_var4 ?_)
  | (with_reducible refine c_asg4 ?_)
  | (with_reducible refine c_nam4 ?_)
  | (with_reducible refine c_var5 ?_)
  | (with_reducible refine c_asg5 ?_)
  | (with_reducible refine c_nam5 ?_)
  | (with_reducible refine c_var6 ?_)
  | (with_reducible refine c_asg6 ?_)
  | (with_reducible refine c_nam6 ?_)
  | (with_reducible refine c_var7 ?_)
  | (with_reducible refine c_asg7 ?_)
  | (with_reducible refine c_nam7 ?_)
  | (with_reducible refine c_var8 ?_)
  | (with_reducible refine c_asg8 ?_)
  | (with_reducible refine c_nam8 ?_)
  | (with_reducible refine c_var9 ?_)
  | (with_reducible refine c_asg9 ?_)
  | (with_reducible refine c_nam9 ?_)
  | (with_reducible refine c_var10 ?_)
  | (with_reducible refine c_asg10 ?_)
  | (with_reducible refine c_nam10 ?_)
  | (with_reducible refine c_var11 ?_)
  | (with_reducible refine c_asg11 ?_)
  | (with_reducible refine c_nam11 ?_)
  | (with_reducible refine c_var12 ?_)
  | (with_reducible refine c_asg12 ?_)
  | (with_reducible refine c_nam12 ?_)
  | (with_reducible refine c_var13 ?_)
  | (with_reducible refine c_asg13 ?_)
  | (with_reducible refine c_nam13 ?_)
  | (with_reducible refine c_var14 ?_)
  | (with_reducible refine c_asg14 ?_)
  | (with_reducible refine c_nam14 ?_)
  | (with_reducible refine c_var15 ?_)
  | (with_reducible refine c_asg15 ?_)
  | (with_reducible refine c_nam15 ?_)
  | (with_reducible refine c_asgG ?_)
  | ((with_reducible refine g_ix_l (xs := ?gxa) (v := ?gxb) ?gx1 ?gx2 ?gx3); (case gx1 => walk_at "get"); (case gx2 => rfl))
  | ((with_reducible refine g_len_l (xs := ?gxa) (.inl ?gx1) ?gx3); (case gx1 => walk_at "get"))
  | ((with_reducible refine g_mod_i ?gx1 ?gx3); (case gx1 => omega)))
local macro_rules | `(tactic| walk_at "rd") => `(tactic| repeat walk_at "rd1")
local macro_rules | `(tactic| walk_at "rs1") => `(tactic| first
  | (with_reducible refine c_next ?_)
  | (with_reducible refine c_drop ?_)
  | (with_reducible refine c_ret ?_)
  | (with_reducible refine c_retN ?_)
  | (with_reducible refine c_ifs ?_)
  | (with_reducible refine c_c ?_)
  | (with_reducible refine c_op ?_)
  | (with_reducible refine c_un ?_)
  | (with_reducible refine c_cb ?_)
  | (with_reducible refine c_nil ?_)
  | (with_reducible refine c_cons ?_)
  | (with_reducible refine c_call ?_)
  | (with_reducible refine c_callK ?_)
  | (with_reducible refine c_test ?_)
  | (with_reducible refine c_tB ?_)
  | (with_reducible refine c_and ?_)
  | (with_reducible refine c_or ?_)
  | (with_reducible refine c_not ?_)
  | (with_reducible refine c_andV ?_)
  | (with_reducible refine c_orV ?_)
  | (with_reducible refine c_notV ?_)
  | (with_reducible refine c_chain ?_)
  | (with_reducible refine c_sl ?_)
  | (with_reducible refine c_nop ?_)
  | (with_reducible refine c_part ?_)
  | (with_reducible refine c_lst ?_)
  | (with_reducible refine c_tup ?_)
  | (with_reducible refine c_bl ?_)
  | (with_reducible refine c_blP ?_)
  | (with_reducible refine c_parti ?_)
  | (with_reducible refine c_t ?_)
  | (with_reducible refine c_f ?_)
  | (with_reducible refine g_add_i ?_)
  | (with_reducible refine g_sub_i ?_)
  | (with_reducible refine g_neg ?_)
  | (with_reducible refine g_eq_i ?_)
  | (with_reducible refine g_eq_st ?_)
  | (with_reducible refine g_eq_b ?_)
  | (with_reducible refine g_ne_i ?_)
  | (with_reducible refine g_ne_st ?_)
  | (with_reducible refine g_ne_b ?_)
  | (with_reducible refine g_lt_i ?_)
  | (with_reducible refine g_le_i ?_)
  | (with_reducible refine g_gt_i ?_)
  | (with_reducible refine g_ge_i ?_)
  | (with_reducible refine g_le_s ?_)
  | (with_reducible refine g_in_s ?_)
  | (with_reducible refine g_ni_s ?_)
  | (with_reducible refine c_brk ?_)
  | (with_reducible refine c_cont ?_)
  | (with_reducible refine c_for ?_)
  | (with_reducible refine c_lcW ?_)
  | (with_reducible refine c_iList ?_)
  | (with_reducible refine c_iTup ?_)
  | (with_reducible refine c_iStr ?_)
  | (with_reducible refine c_iRng1 ?_)
  | (with_reducible refine c_iS ?_)
  | (with_reducible refine c_yes ?_)
  | (with_reducible refine c_sub ?_)
  | (with_reducible refine c_pair ?_)
  | (with_reducible refine c_pnil ?_)
  | (with_reducible refine c_isn ?_)
  | (with_reducible refine c_notn ?_)
  | (with_reducible refine c_sfld ?_)
  | (with_reducible refine c_fld ?_)
  | (with_reducible refine c_raise ?_)
  | (with_reducible refine c_meth0 ?_)
  | (with_reducible refine c_iEnum ?_)
  | (with_reducible refine c_bm ?_)
  | (with_reducible refine c_bm0 ?_)
  | (with_reducible refine c_mk ?_)
  | (with_reducible refine c_try ?_)
  | (with_reducible refine c_iEnumT ?_)
  | (with_reducible refine c_callKS ?_)
  | (with_reducible refine c_tryO ?_)
  | (with_reducible refine c_repl ?_)
  | (with_reducible refine c_fmt ?_)
  | (with_reducible refine c_fs ?_)
  | (with_reducible refine c_jn ?_)
  | (with_reducible refine c_jc ?_)
  | (with_reducible refine c_tru ?_)
  | (with_reducible refine c_m1 ?_)
  | (with_reducible refine c_dget ?_)
  | (with_reducible refine c_din ?_)
  | (with_reducible refine c_dni ?_)
  | (with_reducible refine c_dput ?_)
  | (with_reducible refine c_star ?_)
  | (with_reducible refine c_while ?_)
  | (with_reducible refine c_dcW ?_)
  | (with_reducible refine c_var0 ?_)
  | (with_reducible refine c_asg0 ?_)
  | (with_reducible refine c_nam0 ?_)
  | (with_reducible refine c_var1 ?_)
  | (with_reducible refine c_asg1 ?_)
  | (with_reducible refine c_nam1 ?_)
  | (with_reducible refine c_var2 ?_)
  | (with_reducible refine c_asg2 ?_)
  | (with_reducible refine c_nam2 ?_)
  | (with_reducible refine c_var3 ?_)
  | (with_reducible refine c_asg3 ?_)
  | (with_reducible refine c_nam3 ?_)
  | (with_reducible refine c_var4 ?_)
  | (with_reducible refine c_asg4 ?_)
  | (with_reducible refine c_nam4 ?_)
  | (with_reducible refine c_var5 ?_)
  | (with_reducible refine c_asg5 ?_)
  | (with_reducible refine c_nam5 ?_)
  | (with_reducible refine c_var6 ?_)
  | (with_reducible refine c_asg6 ?_)
  | (with_reducible refine c_nam6 ?_)
  | (with_reducible refine c_var7 ?_)
  | (with_reducible refine c_asg7 ?_)
  | (with_reducible refine c_nam7 ?_)
  | (with_reducible refine c_var8 ?_)
  | (with_reducible refine c_asg8 ?_)
  | (with_reducible refine c_nam8 ?_)
  | (with_reducible refine c_var9 ?_)
  | (with_reducible refine c_asg9 ?_)
  | (with_reducible refine c_nam9 ?_)
  | (with_reducible refine c_var10 ?_)
  | (with_reducible refine c_asg10 ?_)
  | (with_reducible refine c_nam10 ?_)
  | (with_reducible refine c_var11 ?_)
  | (with_reducible refine c_asg11 ?_)
  | (with_reducible refine c_nam11 ?_)
  | (with_reducible refine c_var12 ?_)
  | (with_reducible refine c_asg12 ?_)
  | (with_reducible refine c_nam12 ?_)
  | (with_reducible refine c_var13 ?_)
  | (with_reducible refine c_asg13 ?_)
  | (with_reducible refine c_nam13 ?_)
  | (with_reducible refine c_var14 ?_)
  | (with_reducible refine c_asg14 ?_)
  | (with_reducible refine c_nam14 ?_)
  | (with_reducible refine c_var15 ?_)
  | (with_reducible refine c_asg15 ?_)
  | (with_reducible refine c_nam15 ?_)
  | (with_reducible refine c_asgG ?_)
  | ((with_reducible refine g_ix_l (xs := ?gxa) (v := ?gxb) ?gx1 ?gx2 ?gx3); (case gx1 => walk_at "get"); (case gx2 => rfl))
  | ((with_reducible refine g_len_l (xs := ?gxa) (.inl ?gx1) ?gx3); (case gx1 => walk_at "get"))
  | ((with_reducible refine g_mod_i ?gx1 ?gx3); (case gx1 => omega)))
local macro_rules | `(tactic| walk_at "rs") => `(tactic| repeat walk_at "rs1")
section
variable {P : Program} {w : World} {K : PySem.W.Frag} {mg : Str → Option Value} {base : Heap} {Z : Ads}
theorem strs_inj : ∀ {a b : List Str}, a.map V.str = b.map V.str → a = b
  | [], [], _ => rfl
  | x :: a, y :: b, h => by
    have h' : V.str x :: a.map V.str = V.str y :: b.map V.str := h
    injection h' with h1 h2
    injection h1 with h3
    rw [h3, strs_inj h2]
  | [], _ :: _, h => by cases h
  | _ :: _, [], h => by cases h
theorem pair_facts {h : V} {bs : List Str} (g : goodR h (some (bs.map V.str)) (some []) = true) : (h = .non ∨ ∃ z, h = .str z ∧ nameS z = true) ∧ bs.length ≤ 6 ∧ Names bs ∧ bs.Nodup := by
  obtain ⟨g1, g2, _⟩ := good_and g
  refine ⟨?_, ?_⟩
  · rw [Bool.or_eq_true] at g1
    rcases g1 with k | k
    · exact .inl (of_decide_eq_true k)
    · cases h <;> first | exact .inr ⟨_, rfl, k⟩ | cases k
  · obtain ⟨ss, e, nm, nd, hl⟩ := nms_of g2
    have : bs = ss := strs_inj e
    subst this
    exact ⟨hl, nm, nd⟩
theorem next_names {ks : List Str} {H : Hp} : ∀ {ts : List Addr} {rs : List PR}, PsAt H ts rs → Names (nextS rs ks)
  | [], [], _ => fun z hz => by simp [nextS] at hz
  | t :: ts, r :: rs, ⟨⟨b, _, _, g⟩, h⟩ => fun z hz => by
    have e : nextS (r :: rs) ks = ((headsOf r.1).filter fun z => decide (z ∉ ks) && r.2.all fun x => decide (x ∈ ks)) ++ nextS rs ks := by unfold nextS; rw [List.flatMap_cons]
    rw [e] at hz
    rcases List.mem_append.mp hz with k | k
    · have := (List.mem_filter.mp k).1
      rcases (pair_facts g).1 with q | ⟨y, q, ny⟩
      · rw [q] at this; cases this
      · rw [q] at this
        rw [List.mem_singleton.mp this]; exact ny
    · exact next_names (rs := rs) h z k
  | [], _ :: _, h => h.elim
  | _ :: _, [], h => h.elim
theorem str_ext {a b : Str} (h : a.cps.toList = b.cps.toList) : a = b := by
  cases a; cases b
  exact congrArg Str.mk (Array.toList_inj.mp h)
theorem rising_pw : ∀ (p : Str) (l : List Str), risingS p l = true → (p :: l).Pairwise fun a b => a.cps.toList ≤ b.cps.toList
  | p, [], _ => List.pairwise_singleton ..
  | p, x :: r, h => by
    have h' : (!ltCps x.cps.toList p.cps.toList && risingS x r) = true := h
    rw [Bool.and_eq_true, PyProof.Rows.ltCps_eq] at h'
    have hpx : p.cps.toList ≤ x.cps.toList := by
      have := h'.1
      simp only [Bool.not_eq_true', decide_eq_false_iff_not] at this
      exact List.not_lt.mp this
    have ih := rising_pw x r h'.2
    refine List.pairwise_cons.mpr ⟨fun y hy => ?_, ih⟩
    rcases List.mem_cons.mp hy with rfl | k
    · exact hpx
    · exact List.le_trans hpx ((List.pairwise_cons.mp ih).1 y k)
theorem sorted_pw : ∀ (l : List Str), sortedS l = true → l.Pairwise fun a b => a.cps.toList ≤ b.cps.toList
  | [], _ => List.Pairwise.nil
  | x :: r, h => rising_pw x r h
theorem sorted_uniq : ∀ {a b : List Str}, a.Perm b → sortedS a = true → sortedS b = true → a = b := by
  have key : ∀ {a b : List Str}, a.Perm b → (a.Pairwise fun a b => a.cps.toList ≤ b.cps.toList) → (b.Pairwise fun a b => a.cps.toList ≤ b.cps.toList) → a = b := by
    intro a
    induction a with
    | nil => intro b p _ _; exact (List.nil_perm.mp p).symm
    | cons x r ih =>
      intro b p ha hb
      cases b with
      | nil => exact absurd p.length_eq (by simp)
      | cons y s =>
        have e : x = y := by
          have h1 : x ∈ y :: s := p.subset (.head _)
          have h2 : y ∈ x :: r := p.symm.subset (.head _)
          rcases List.mem_cons.mp h1 with k | k
          · exact k
          · rcases List.mem_cons.mp h2 with q | q
            · exact q.symm
            · exact str_ext (List.le_antisymm ((List.pairwise_cons.mp ha).1 y q) ((List.pairwise_cons.mp hb).1 x k))
        subst e
        rw [ih (List.perm_cons x |>.mp p) (List.pairwise_cons.mp ha).2 (List.pairwise_cons.mp hb).2]
  intro a b p h1 h2
  exact key p (sorted_pw _ h1) (sorted_pw _ h2)
theorem ps_names {H : Hp} : ∀ {ts : List Addr} {rs : List PR}, PsAt H ts rs → Names (Gx.namesOf rs)
  | [], [], _ => fun z hz => by simp [Gx.namesOf] at hz
  | t :: ts, r :: rs, ⟨⟨b, _, _, g⟩, h⟩ => fun z hz => by
    unfold Gx.namesOf at hz
    rw [List.flatMap_cons] at hz
    obtain ⟨h1, _, h3, _⟩ := pair_facts g
    rcases List.mem_append.mp hz with k | k
    · rcases List.mem_append.mp k with k | k
      · rcases h1 with q | ⟨y, q, ny⟩
        · rw [q] at k; cases k
        · rw [q] at k; rw [List.mem_singleton.mp k]; exact ny
      · exact h3 z k
    · exact ps_names h z k
  | [], _ :: _, h => h.elim
  | _ :: _, [], h => h.elim
theorem lev_names {H : Hp} {ts : List Addr} {rs : List PR} {ss : List Str} (hP : PsAt H ts rs) (hs : Names ss) (nd : ss.Nodup) : Names (keysF (levF rs ss)) := by
  have h := lev_len (W := Gx.namesOf rs ++ ss) (rs := rs) (ss := ss) (fun z hz => List.mem_append.mpr (.inl hz)) (fun z hz => List.mem_append.mpr (.inr hz)) nd
  intro z hz
  rcases List.mem_append.mp (h.2 z hz) with k | k
  · exact ps_names hP z k
  · exact hs z k
theorem RsAt.exl {H H' : Hp} (e : Exl H H') : ∀ {as : List Addr} {rs : List PR}, RsAt K Z H as rs → RsAt K Z H' as rs
  | [], [], _ => trivial
  | _ :: _, _ :: _, h => ⟨exl_rule e h.1, RsAt.exl e h.2⟩
  | [], _ :: _, h => h.elim
  | _ :: _, [], h => h.elim
theorem RsAt.snoc {H : Hp} {a : Addr} {r : PR} (h2 : IsRule K Z H a r.1 (r.2.map V.str) []) : ∀ {as : List Addr} {rs : List PR}, RsAt K Z H as rs → RsAt K Z H (as ++ [a]) (rs ++ [r])
  | [], [], _ => ⟨h2, trivial⟩
  | _ :: _, _ :: _, ⟨h1, h⟩ => ⟨h1, RsAt.snoc h2 h⟩
  | [], _ :: _, h => h.elim
  | _ :: _, [], h => h.elim
theorem look_mem : ∀ {F : TD} {z : Str} {v : V}, look F z = some v → (z, v) ∈ F
  | [], _, _, h => by cases h
  | e :: F, z, v, h => by
    by_cases k : e.1 = z
    · rw [show look (e :: F) z = some e.2 from if_pos k] at h
      cases h
      rw [← k]; exact .head _
    · rw [show look (e :: F) z = look F z from if_neg k] at h
      exact .tail _ (look_mem h)
theorem c_iVals {σ : L2.St} {H : Hp} {td : TE} {R : It → Hp → Prop} (h : td σ H fun x H1 => ∃ d o kvs, x = .ref d ∧ H1 d = some (.frz o (.dK kvs)) ∧ R (Itd d o kvs) H1) : iVals td σ H R := h
theorem used_taken : Used taken := ⟨fun _ h => h, by decide +kernel, by decide +kernel⟩
theorem taken3 : taken.length = 3 := by decide +kernel

end
end K11

set_option maxHeartbeats 800000
namespace K11
open PySem PySem.Spec PyProof.Rows L2 Evl Gx
local macro_rules | `(tactic| walk_at "get") => `(tactic| first
  | assumption
  | exact upd_same
  | ((with_reducible refine sq_l ?_); walk_at "get")
  | ((with_reducible refine sq_t ?_); walk_at "get")
  | ((with_reducible refine ex_l (by assumption) ?_); walk_at "get")
  | ((with_reducible refine ex_t (by assumption) ?_); walk_at "get")
  | ((with_reducible refine Draw.ex (by assumption) ?_); walk_at "get")
  | ((with_reducible refine Arg.ex (by assumption) ?_); walk_at "get")
  | ((with_reducible refine IsRule.ex (by assumption) ?_); walk_at "get")
  | ((with_reducible refine Thing.ex (by assumption) ?_); walk_at "get")
  | ((with_reducible refine exget (by assumption) ?_); walk_at "get"))
local macro_rules | `(tactic| walk_at "rd1") => `(tactic| first
  | (with_reducible refine c_seq ?_)
  | (with_reducible refine c_next ?_)
  | (with_reducible refine c_drop ?_)
  | (with_reducible refine c_ret ?_)
  | (with_reducible refine c_retN ?_)
  | (with_reducible refine c_ifs ?_)
  | (with_reducible refine c_c ?_)
  | (with_reducible refine c_op ?_)
  | (with_reducible refine c_un ?_)
  | (with_reducible refine c_cb ?_)
  | (with_reducible refine c_nil ?_)
  | (with_reducible refine c_cons ?_)
  | (with_reducible refine c_call ?_)
  | (with_reducible refine c_callK ?_)
  | (with_reducible refine c_test ?_)
  | (with_reducible refine c_tB ?_)
  | (with_reducible refine c_and ?_)
  | (with_reducible refine c_or ?_)
  | (with_reducible refine c_not ?_)
  | (with_reducible refine c_andV ?_)
  | (with_reducible refine c_orV ?_)
  | (with_reducible refine c_notV ?_)
  | (with_reducible refine c_if ?_)
  | (with_reducible refine c_chain ?_)
  | (with_reducible refine c_sl ?_)
  | (with_reducible refine c_nop ?_)
  | (with_reducible refine c_part ?_)
  | (with_reducible refine c_lst ?_)
  | (with_reducible refine c_tup ?_)
  | (with_reducible refine c_bl ?_)
  | (with_reducible refine c_blP ?_)
  | (with_reducible refine c_parti ?_)
  | (with_reducible refine c_t ?_)
  | (with_reducible refine c_f ?_)
  | (with_reducible refine g_add_i ?_)
  | (with_reducible refine g_sub_i ?_)
  | (with_reducible refine g_neg ?_)
  | (with_reducible refine g_eq_i ?_)
  | (with_reducible refine g_eq_st ?_)
  | (with_reducible refine g_eq_b ?_)
  | (with_reducible refine g_ne_i ?_)
  | (with_reducible refine g_ne_st ?_)
  | (with_reducible refine g_ne_b ?_)
  | (with_reducible refine g_lt_i ?_)
  | (with_reducible refine g_le_i ?_)
  | (with_reducible refine g_gt_i ?_)
  | (with_reducible refine g_ge_i ?_)
  | (with_reducible refine g_le_s ?_)
  | (with_reducible refine g_in_s ?_)
  | (with_reducible refine g_ni_s ?_)
  | (with_reducible refine c_brk ?_)
  | (with_reducible refine c_cont ?_)
  | (with_reducible refine c_for ?_)
  | (with_reducible refine c_lcW ?_)
  | (with_reducible refine c_iList ?_)
  | (with_reducible refine c_iTup ?_)
  | (with_reducible refine c_iStr ?_)
  | (with_reducible refine c_iRng1 ?_)
  | (with_reducible refine c_iS ?_)
  | (with_reducible refine c_yes ?_)
  | (with_reducible refine c_sub ?_)
  | (with_reducible refine c_pair ?_)
  | (with_reducible refine c_pnil ?_)
  | (with_reducible refine c_isn ?_)
  | (with_reducible refine c_notn ?_)
  | (with_reducible refine c_sfld ?_)
  | (with_reducible refine c_fld ?_)
  | (with_reducible refine c_raise ?_)
  | (with_reducible refine c_meth0 ?_)
  | (with_reducible refine c_iEnum ?_)
  | (with_reducible refine c_bm ?_)
  | (with_reducible refine c_bm0 ?_)
  | (with_reducible refine c_mk ?_)
  | (with_reducible refine c_try ?_)
  | (with_reducible refine c_iEnumT ?_)
  | (with_reducible refine c_callKS ?_)
  | (with_reducible refine c_tryO ?_)
  | (with_reducible refine c_repl ?_)
  | (with_reducible refine c_fmt ?_)
  | (with_reducible refine c_fs ?_)
  | (with_reducible refine c_jn ?_)
  | (with_reducible refine c_jc ?_)
  | (with_reducible refine c_tru ?_)
  | (with_reducible refine c_m1 ?_)
  | (with_reducible refine c_dget ?_)
  | (with_reducible refine c_din ?_)
  | (with_reducible refine c_dni ?_)
  | (with_reducible refine c_dput ?_)
  | (with_reducible refine c_star ?_)
  | (with_reducible refine c_while ?_)
  | (with_reducible refine c_dcW ?_)
  | (with_reducible refine c_var0 ?_)
  | (with_reducible refine c_asg0 ?_)
  | (with_reducible refine c_nam0 ?_)
  | (with_reducible refine c_var1 ?_)
  | (with_reducible refine c_asg1 ?_)
  | (with_reducible refine c_nam1 ?_)
  | (with_reducible refine c_var2 ?_)
  | (with_reducible refine c_asg2 ?_)
  | (with_reducible refine c_nam2 ?_)
  | (with_reducible refine c_var3 ?_)
  | (with_reducible refine c_asg3 ?_)
  | (with_reducible refine c_nam3 ?_)
  | (with_reducible refine c_var4 ?_)
  | (with_reducible refine c_asg4 ?_)
  | (with_reducible refine c_nam4 ?_)
  | (with_reducible refine c_var5 ?_)
  | (with_reducible refine c_asg5 ?_)
  | (with_reducible refine c_nam5 ?_)
  | (with_reducible refine c_var6 ?_)
  | (with_reducible refine c_asg6 ?_)
  | (with_reducible refine c_nam6 ?_)
  | (with_reducible refine c_var7 ?_)
  | (with_reducible refine c_asg7 ?_)
  | (with_reducible refine c_nam7 ?_)
  | (with_reducible refine c_var8 ?_)
  | (with_reducible refine c_asg8 ?_)
  | (with_reducible refine c_nam8 ?_)
  | (with_reducible refine c_var9 ?_)
  | (with_reducible refine c_asg9 ?_)
  | (with_reducible refine c_nam9 ?_)
  | (with_reducible refine c_var10 ?_)
  | (with_reducible refine c_asg10 ?_)
  | (with_reducible refine c_nam10 ?_)
  | (with_reducible refine c_var11 ?_)
  | (with_reducible refine c_asg11 ?_)
  | (with_reducible refine c_nam11 ?_)
  | (with_reducible refine c_var12 ?_)
  | (with_reducible refine c_asg12 ?_)
  | (with_reducible refine c_nam12 ?_)
  | (with_reducible refine c_var13 ?_)
  | (with_reducible refine c_asg13 ?_)
  | (with_reducible refine c_nam13 ?_)
  | (with_reducible refine c_var14 ?_)
  | (with_reducible refine c_asg14 ?_)
  | (with_reducible refine c_nam14 ?_)
  | (with_reducible refine c_var15 ?_)
  | (with_reducible refine c_asg15 ?_)
  | (with_reducible refine c_nam15 ?_)
  | (with_reducible refine c_asgG ?_)
  | ((with_reducible refine g_ix_l (xs := ?gxa) (v := ?gxb) ?gx1 ?gx2 ?gx3); (case gx1 => walk_at "get"); (case gx2 => rfl))
  | ((with_reducible refine g_len_l (xs := ?gxa) (.inl ?gx1) ?gx3); (case gx1 => walk_at "get"))
  | ((with_reducible refine g_mod_i ?gx1 ?gx3); (case gx1 => omega)))
local macro_rules | `(tactic| walk_at "rd") => `(tactic| repeat walk_at "rd1")
local macro_rules | `(tactic| walk_at "rs1") => `(tactic| first
  | (with_reducible refine c_next ?_)
  | (with_reducible refine c_drop ?_)
  | (with_reducible refine c_ret ?_)
  | (with_reducible refine c_retN ?_)
  | (with_reducible refine c_ifs ?_)
  | (with_reducible refine c_c ?_)
  | (with_reducible refine c_op ?_)
  | (with_reducible refine c_un ?_)
  | (with_reducible refine c_cb ?_)
  | (with_reducible refine c_nil ?_)
  | (with_reducible refine c_cons ?_)
  | (with_reducible refine c_call ?_)
  | (with_reducible refine c_callK ?_)
  | (with_reducible refine c_test ?_)
  | (with_reducible refine c_tB ?_)
  | (with_reducible refine c_and ?_)
  | (with_reducible refine c_or ?_)
  | (with_reducible refine c_not ?_)
  | (with_reducible refine c_andV ?_)
  | (with_reducible refine c_orV ?_)
  | (with_reducible refine c_notV ?_)
  | (with_reducible refine c_chain ?_)
  | (with_reducible refine c_sl ?_)
  | (with_reducible refine c_nop ?_)
  | (with_reducible refine c_part ?_)
  | (with_reducible refine c_lst ?_)
  | (with_reducible refine c_tup ?_)
  | (with_reducible refine c_bl ?_)
  | (with_reducible refine c_blP ?_)
  | (with_reducible refine c_parti ?_)
  | (with_reducible refine c_t ?_)
  | (with_reducible refine c_f ?_)
  | (with_reducible refine g_add_i ?_)
  | (with_reducible refine g_sub_i ?_)
  | (with_reducible refine g_neg ?_)
  | (with_reducible refine g_eq_i ?_)
  | (with_reducible refine g_eq_st ?_)
  | (with_reducible refine g_eq_b ?_)
  | (with_reducible refine g_ne_i ?_)
  | (with_reducible refine g_ne_st ?_)
  | (with_reducible refine g_ne_b ?_)
  | (with_reducible refine g_lt_i ?_)
  | (with_reducible refine g_le_i ?_)
  | (with_reducible refine g_gt_i ?_)
  | (with_reducible refine g_ge_i ?_)
  | (with_reducible refine g_le_s ?_)
  | (with_reducible refine g_in_s ?_)
  | (with_reducible refine g_ni_s ?_)
  | (with_reducible refine c_brk ?_)
  | (with_reducible refine c_cont ?_)
  | (with_reducible refine c_for ?_)
  | (with_reducible refine c_lcW ?_)
  | (with_reducible refine c_iList ?_)
  | (with_reducible refine c_iTup ?_)
  | (with_reducible refine c_iStr ?_)
  | (with_reducible refine c_iRng1 ?_)
  | (with_reducible refine c_iS ?_)
  | (with_reducible refine c_yes ?_)
  | (with_reducible refine c_sub ?_)
  | (with_reducible refine c_pair ?_)
  | (with_reducible refine c_pnil ?_)
  | (with_reducible refine c_isn ?_)
  | (with_reducible refine c_notn ?_)
  | (with_reducible refine c_sfld ?_)
  | (with_reducible refine c_fld ?_)
  | (with_reducible refine c_raise ?_)
  | (with_reducible refine c_meth0 ?_)
  | (with_reducible refine c_iEnum ?_)
  | (with_reducible refine c_bm ?_)
  | (with_reducible refine c_bm0 ?_)
  | (with_reducible refine c_mk ?_)
  | (with_reducible refine c_try ?_)
  | (with_reducible refine c_iEnumT ?_)
  | (with_reducible refine c_callKS ?_)
  | (with_reducible refine c_tryO ?_)
  | (with_reducible refine c_repl ?_)
  | (with_reducible refine c_fmt ?_)
  | (with_reducible refine c_fs ?_)
  | (with_reducible refine c_jn ?_)
  | (with_reducible refine c_jc ?_)
  | (with_reducible refine c_tru ?_)
  | (with_reducible refine c_m1 ?_)
  | (with_reducible refine c_dget ?_)
  | (with_reducible refine c_din ?_)
  | (with_reducible refine c_dni ?_)
  | (with_reducible refine c_dput ?_)
  | (with_reducible refine c_star ?_)
  | (with_reducible refine c_while ?_)
  | (with_reducible refine c_dcW ?_)
  | (with_reducible refine c_var0 ?_)
  | (with_reducible refine c_asg0 ?_)
  | (with_reducible refine c_nam0 ?_)
  | (with_reducible refine c_var1 ?_)
  | (with_reducible refine c_asg1 ?_)
  | (with_reducible refine c_nam1 ?_)
  | (with_reducible refine c_var2 ?_)
  | (with_reducible refine c_asg2 ?_)
  | (with_reducible refine c_nam2 ?_)
  | (with_reducible refine c_var3 ?_)
  | (with_reducible refine c_asg3 ?_)
  | (with_reducible refine c_nam3 ?_)
  | (with_reducible refine c_var4 ?_)
  | (with_reducible refine c_asg4 ?_)
  | (with_reducible refine c_nam4 ?_)
  | (with_reducible refine c_var5 ?_)
  | (with_reducible refine c_asg5 ?_)
  | (with_reducible refine c_nam5 ?_)
  | (with_reducible refine c_var6 ?_)
  | (with_reducible refine c_asg6 ?_)
  | (with_reducible refine c_nam6 ?_)
  | (with_reducible refine c_var7 ?_)
  | (with_reducible refine c_asg7 ?_)
  | (with_reducible refine c_nam7 ?_)
  | (with_reducible refine c_var8 ?_)
  | (with_reducible refine c_asg8 ?_)
  | (with_reducible refine c_nam8 ?_)
  | (with_reducible refine c_var9 ?_)
  | (with_reducible refine c_asg9 ?_)
  | (with_reducible refine c_nam9 ?_)
  | (with_reducible refine c_var10 ?_)
  | (with_reducible refine c_asg10 ?_)
  | (with_reducible refine c_nam10 ?_)
  | (with_reducible refine c_var11 ?_)
  | (with_reducible refine c_asg11 ?_)
  | (with_reducible refine c_nam11 ?_)
  | (with_reducible refine c_var12 ?_)
  | (with_reducible refine c_asg12 ?_)
  | (with_reducible refine c_nam12 ?_)
  | (with_reducible refine c_var13 ?_)
  | (with_reducible refine c_asg13 ?_)
  | (with_reducible refine c_nam13 ?_)
  | (with_reducible refine c_var14 ?_)
  | (with_reducible refine c_asg14 ?_)
  | (with_reducible refine c_nam14 ?_)
  | (with_reducible refine c_var15 ?_)
  | (with_reducible refine c_asg15 ?_)
  | (with_reducible refine c_nam15 ?_)
  | (with_reducible refine c_asgG ?_)
  | ((with_reducible refine g_ix_l (xs := ?gxa) (v := ?gxb) ?gx1 ?gx2 ?gx3); (case gx1 => walk_at "get"); (case gx2 => rfl))
  | ((with_reducible refine g_len_l (xs := ?gxa) (.inl ?gx1) ?gx3); (case gx1 => walk_at "get"))
  | ((with_reducible refine g_mod_i ?gx1 ?gx3); (case gx1 => omega)))
local macro_rules | `(tactic| walk_at "rs") => `(tactic| repeat walk_at "rs1")
section
variable {P : Program} {w : World} {K : PySem.W.Frag} {mg : Str → Option Value} {base : Heap} {Z : Ads}
theorem never_snoc (rs : List PR) (r : PR) (ks : List Str) : neverIn (rs ++ [r]) ks = (neverIn rs ks || (decide (r.1 = V.non) && r.2.all fun x => decide (x ∈ ks))) := by
  unfold neverIn; rw [List.any_append]; simp
theorem never_mem {rs : List PR} {r : PR} {ks : List Str} (hr : r ∈ rs) (h : (decide (r.1 = V.non) && r.2.all fun x => decide (x ∈ ks)) = true) : neverIn rs ks = true := List.any_eq_true.mpr ⟨r, hr, h⟩
theorem never_congr {rs : List PR} {a b : List Str} (h : ∀ z, z ∈ a ↔ z ∈ b) : neverIn rs a = neverIn rs b := by
  unfold neverIn
  congr 1
  funext r
  congr 2
  funext x
  exact decide_eq_decide.mpr (h x)
theorem rd_first_never {vs : List V} {H : Hp} {Q : VK} {E : XK} (R : RuleC K Z.Rule) (h : sp_first_never K Z vs H Q E) : t_first_never K Z { nx := fun _ H' => Q .non H', rt := Q } (start ["rules", "there", "place", "rule"] vs) H := by
  obtain ⟨b, d, as, rs, F, rfl, hb, hR, hl, hd, q⟩ := h
  show t_first_never K Z _ [some (.ref b), some (.ref d), none, none] H
  unfold t_first_never
  have hlen := RsAt.len hR
  walk_at "rd"
  refine c_iE (sq_l hb) ?_
  refine for_it walk_enum (fun i σ H' => Ex H H' ∧ ∃ (y2 y3 : Option V), σ = [some (.ref b), some (.ref d), y2, y3] ∧ neverIn (rs.take i) (keysF F) = false) ⟨Ex.refl _, none, none, rfl, rfl⟩ (fun _ _ _ _ h => sq_l (h.1 _ _ hb)) ?_ ?_
  · rintro i x σ H4 H5 hi ⟨e4, y0, z0, rfl, hne⟩ ⟨T, x1, y, rfl, nT, rfl, hx1, hy⟩
    cases hx1
    have e5 : Ex H4 (upd H4 T (.tup [.int (i : Nat), y])) := Ex.new nT
    have e45 := e4.trans e5
    replace hy : (as.map V.ref)[i]? = some y := hy
    rw [List.getElem?_map] at hy
    obtain ⟨a, ha, rfl⟩ := Option.map_eq_some_iff.mp hy
    refine g_pair (sq_t upd_same) ?_
    generalize upd H4 T (.tup [.int (i : Nat), .ref a]) = H6 at e5 e45
    obtain ⟨r, hr, hI⟩ := RsAt.get (RsAt.ex e45 hR) ha
    obtain ⟨dx, pb, pu, h1, h2, h3, h4, h5, h6⟩ := rule_facts hI
    have hmem : r ∈ rs := List.mem_of_getElem? hr
    have keep : (decide (r.1 = V.non) && r.2.all fun x => decide (x ∈ keysF F)) = false → neverIn (rs.take (i + 1)) (keysF F) = false := fun k => by
      rw [take_snoc hr, never_snoc, hne, k]; rfl
    walk_at "rd"
    refine g_fld h1 R.cls R.nh rfl ?_
    walk_at "rd"
    refine c_d (fun hn => ?_) (fun hn => ?_)
    · walk_at "rd"
      refine g_fld h1 R.cls R.nb rfl ?_
      walk_at "rd"
      refine ⟨d, pb, F, r.2, rfl, e45 _ _ hd, .inr h2, by omega, fun H7 e7 => ?_⟩
      walk_at "rd"
      cases hall : r.2.all fun x => decide (x ∈ keysF F) with
      | true =>
        refine c_t ?_
        walk_at "rd"
        exact q _ _ (e45.trans e7) (.inr ⟨⟨i, rfl⟩, never_mem hmem (by rw [hall, decide_eq_true hn]; rfl)⟩)
      | false =>
        refine c_f ?_
        walk_at "rd"
        exact ⟨e45.trans e7, _, _, rfl, keep (by rw [hall]; simp)⟩
    · walk_at "rd"
      exact ⟨e45, _, _, rfl, keep (by rw [decide_eq_false hn]; rfl)⟩
  · rintro σ H4 ⟨e4, y0, z0, rfl, hne⟩
    rw [List.length_map, hlen, List.take_of_length_le (Nat.le_refl _)] at hne
    walk_at "rd"
    exact q _ _ e4 (.inl ⟨rfl, hne⟩)
theorem rd_held {vs : List V} {H : Hp} {Q : VK} {E : XK} (h : sp_held K Z vs H Q E) : t_held K Z { nx := fun _ H' => Q .non H', rt := Q } (start ["rules", "grounds", "base", "given"] vs) H := by
  obtain ⟨p, q0, as, rs, ss, W, rfl, hp, hR, hq, hl, hW1, hW2, hW3, nm, nd, q⟩ := h
  show t_held K Z _ [some (.ref p), some (.ref q0), none, none] H
  unfold t_held
  walk_at "rd"
  refine ⟨p, q0, as, rs, ss, W, rfl, hp, hR, hq, hl, hW1, hW2, hW3, nm, nd, fun t b g H1 e1 h1 h1b h1g => ?_⟩
  walk_at "rd"
  refine g_pair (sq_t h1) ?_
  walk_at "rd"
  have hI := lev_len hW1 hW2 nd
  have hI2 := hI.len
  refine ⟨b, g, as, rs, ss, W, rfl, h1b, RsAt.ex e1 hR, hl, h1g, hW1, hW2, hW3, nd, fun d H2 e2 h2 => ?_⟩
  walk_at "rd"
  refine g_sortD (ks := keysF (levF rs ss)) h2 (by unfold dkv keysF; rw [List.map_map, List.map_map]; rfl) (by rw [len_keys]; omega) (fun ys r H3 hperm hsort nr e3 h3 => ?_)
  exact q ys r H3 (e1.trans (e2.trans e3)) (fresh_back (e1.trans e2) nr) hperm hsort h3
theorem rd_clash {vs : List V} {H : Hp} {Q : VK} {E : XK} (h : sp_clash K Z vs H Q E) : t_clash K Z { nx := fun _ H' => Q .non H', rt := Q } (start ["rules", "grounds", "base", "given"] vs) H := by
  obtain ⟨p, q0, as, rs, ss, W, rfl, hp, hR, hq, hl, hW1, hW2, hW3, nm, nd, q⟩ := h
  show t_clash K Z _ [some (.ref p), some (.ref q0), none, none] H
  unfold t_clash
  walk_at "rd"
  refine ⟨p, q0, as, rs, ss, W, rfl, hp, hR, hq, hl, hW1, hW2, hW3, nm, nd, fun t b g H1 e1 h1 h1b h1g => ?_⟩
  walk_at "rd"
  refine g_pair (sq_t h1) ?_
  walk_at "rd"
  refine ⟨b, g, as, rs, ss, W, rfl, h1b, RsAt.ex e1 hR, hl, h1g, hW1, hW2, hW3, nd, fun d H2 e2 h2 => ?_⟩
  walk_at "rd"
  refine ⟨b, d, as, rs, levF rs ss, rfl, e2 _ _ h1b, RsAt.ex (e1.trans e2) hR, hl, h2, fun v H3 e3 hv => ?_⟩
  have e13 := e1.trans (e2.trans e3)
  walk_at "rd"
  rcases hv with ⟨rfl, hn⟩ | ⟨⟨n, rfl⟩, hn⟩
  · have := q H3 e13; rw [hn] at this; exact this
  · have := q H3 e13; rw [hn] at this; exact this

end
end K11

set_option maxHeartbeats 800000
namespace K11
open PySem PySem.Spec PyProof.Rows L2 Evl Gx
local macro_rules | `(tactic| walk_at "get") => `(tactic| first
  | assumption
  | exact upd_same
  | ((with_reducible refine sq_l ?_); walk_at "get")
  | ((with_reducible refine sq_t ?_); walk_at "get")
  | ((with_reducible refine ex_l (by assumption) ?_); walk_at "get")
  | ((with_reducible refine ex_t (by assumption) ?_); walk_at "get")
  | ((with_reducible refine Draw.ex (by assumption) ?_); walk_at "get")
  | ((with_reducible refine Arg.ex (by assumption) ?_); walk_at "get")
  | ((with_reducible refine IsRule.ex (by assumption) ?_); walk_at "get")
  | ((with_reducible refine Thing.ex (by assumption) ?_); walk_at "get")
  | ((with_reducible refine exget (by assumption) ?_); walk_at "get"))
local macro_rules | `(tactic| walk_at "rd1") => `(tactic| first
  | (with_reducible refine c_seq ?_)
  | (with_reducible refine c_next ?_)
  | (with_reducible refine c_drop ?_)
  | (with_reducible refine c_ret ?_)
  | (with_reducible refine c_retN ?_)
  | (with_reducible refine c_ifs ?_)
  | (with_reducible refine c_c ?_)
  | (with_reducible refine c_op ?_)
  | (with_reducible refine c_un ?_)
  | (with_reducible refine c_cb ?_)
  | (with_reducible refine c_nil ?_)
  | (with_reducible refine c_cons ?_)
  | (with_reducible refine c_call ?_)
  | (with_reducible refine c_callK ?_)
  | (with_reducible refine c_test ?_)
  | (with_reducible refine c_tB ?_)
  | (with_reducible refine c_and ?_)
  | (with_reducible refine c_or ?_)
  | (with_reducible refine c_not ?_)
  | (with_reducible refine c_andV ?_)
  | (with_reducible refine c_orV ?_)
  | (with_reducible refine c_notV ?_)
  | (with_reducible refine c_if ?_)
  | (with_reducible refine c_chain ?_)
  | (with_reducible refine c_sl ?_)
  | (with_reducible refine c_nop ?_)
  | (with_reducible refine c_part ?_)
  | (with_reducible refine c_lst ?_)
  | (with_reducible refine c_tup ?_)
  | (with_reducible refine c_bl ?_)
  | (with_reducible refine c_blP ?_)
  | (with_reducible refine c_parti ?_)
  | (with_reducible refine c_t ?_)
  | (with_reducible refine c_f ?_)
  | (with_reducible refine g_add_i ?_)
  | (with_reducible refine g_sub_i ?_)
  | (with_reducible refine g_neg ?_)
  | (with_reducible refine g_eq_i ?_)
  | (with_reducible refine g_eq_st ?_)
  | (with_reducible refine g_eq_b ?_)
  | (with_reducible refine g_ne_i ?_)
  | (with_reducible refine g_ne_st ?_)
  | (with_reducible refine g_ne_b ?_)
  | (with_reducible refine g_lt_i ?_)
  | (with_reducible refine g_le_i ?_)
  | (with_reducible refine g_gt_i ?_)
  | (with_reducible refine g_ge_i ?_)
  | (with_reducible refine g_le_s ?_)
  | (with_reducible refine g_in_s ?_)
  | (with_reducible refine g_ni_s ?_)
  | (with_reducible refine c_brk ?_)
  | (with_reducible refine c_cont ?_)
  | (with_reducible refine c_for ?_)
  | (with_reducible refine c_lcW ?_)
  | (with_reducible refine c_iList ?_)
  | (with_reducible refine c_iTup ?_)
  | (with_reducible refine c_iStr ?_)
  | (with_reducible refine c_iRng1 ?_)
  | (with_reducible refine c_iS ?_)
  | (with_reducible refine c_yes ?_)
  | (with_reducible refine c_sub ?_)
  | (with_reducible refine c_pair ?_)
  | (with_reducible refine c_pnil ?_)
  | (with_reducible refine c_isn ?_)
  | (with_reducible refine c_notn ?_)
  | (with_reducible refine c_sfld ?_)
  | (with_reducible refine c_fld ?_)
  | (with_reducible refine c_raise ?_)
  | (with_reducible refine c_meth0 ?_)
  | (with_reducible refine c_iEnum ?_)
  | (with_reducible refine c_bm ?_)
  | (with_reducible refine c_bm0 ?_)
  | (with_reducible refine c_mk ?_)
  | (with_reducible refine c_try ?_)
  | (with_reducible refine c_iEnumT ?_)
  | (with_reducible refine c_callKS ?_)
  | (with_reducible refine c_tryO ?_)
  | (with_reducible refine c_repl ?_)
  | (with_reducible refine c_fmt ?_)
  | (with_reducible refine c_fs ?_)
  | (with_reducible refine c_jn ?_)
  | (with_reducible refine c_jc ?_)
  | (with_reducible refine c_tru ?_)
  | (with_reducible refine c_m1 ?_)
  | (with_reducible refine c_dget ?_)
  | (with_reducible refine c_din ?_)
  | (with_reducible refine c_dni ?_)
  | (with_reducible refine c_dput ?_)
  | (with_reducible refine c_star ?_)
  | (with_reducible refine c_while ?_)
  | (with_reducible refine c_dcW ?_)
  | (with_reducible refine c_var0 ?_)
  | (with_reducible refine c_asg0 ?_)
  | (with_reducible refine c_nam0 ?_)
  | (with_reducible refine c_var1 ?_)
  | (with_reducible refine c_asg1 ?_)
  | (with_reducible refine c_nam1 ?_)
  | (with_reducible refine c_var2 ?_)
  | (with_reducible refine c_asg2 ?_)
  | (with_reducible refine c_nam2 ?_)
  | (with_reducible refine c_var3 ?_)
  | (with_reducible refine c_asg3 ?_)
  | (with_reducible refine c_nam3 ?_)
  | (with_reducible refine c_var4 ?_)
  | (with_reducible refine c_asg4 ?_)
  | (with_reducible refine c_nam4 ?_)
  | (with_reducible refine c_var5 ?_)
  | (with_reducible refine c_asg5 ?_)
  | (with_reducible refine c_nam5 ?_)
  | (with_reducible refine c_var6 ?_)
  | (with_reducible refine c_asg6 ?_)
  | (with_reducible refine c_nam6 ?_)
  | (with_reducible refine c_var7 ?_)
  | (with_reducible refine c_asg7 ?_)
  | (with_reducible refine c_nam7 ?_)
  | (with_reducible refine c_var8 ?_)
  | (with_reducible refine c_asg8 ?_)
  | (with_reducible refine c_nam8 ?_)
  | (with_reducible refine c_var9 ?_)
  | (with_reducible refine c_asg9 ?_)
  | (with_reducible refine c_nam9 ?_)
  | (with_reducible refine c_var10 ?_)
  | (with_reducible refine c_asg10 ?_)
  | (with_reducible refine c_nam10 ?_)
  | (with_reducible refine c_var11 ?_)
  | (with_reducible refine c_asg11 ?_)
  | (with_reducible refine c_nam11 ?_)
  | (with_reducible refine c_var12 ?_)
  | (with_reducible refine c_asg12 ?_)
  | (with_reducible refine c_nam12 ?_)
  | (with_reducible refine c_var13 ?_)
  | (with_reducible refine c_asg13 ?_)
  | (with_reducible refine c_nam13 ?_)
  | (with_reducible refine c_var14 ?_)
  | (with_reducible refine c_asg14 ?_)
  | (with_reducible refine c_nam14 ?_)
  | (with_reducible refine c_var15 ?_)
  | (with_reducible refine c_asg15 ?_)
  | (with_reducible refine c_nam15 ?_)
  | (with_reducible refine c_asgG ?_)
  | ((with_reducible refine g_ix_l (xs := ?gxa) (v := ?gxb) ?gx1 ?gx2 ?gx3); (case gx1 => walk_at "get"); (case gx2 => rfl))
  | ((with_reducible refine g_len_l (xs := ?gxa) (.inl ?gx1) ?gx3); (case gx1 => walk_at "get"))
  | ((with_reducible refine g_mod_i ?gx1 ?gx3); (case gx1 => omega)))
local macro_rules | `(tactic| walk_at "rd") => `(tactic| repeat walk_at "rd1")
local macro_rules | `(tactic| walk_at "rs1") => `(tactic| first
  | (with_reducible refine c_next ?_)
  | (with_reducible refine c_drop ?_)
  | (with_reducible refine c_ret ?_)
  | (with_reducible refine c_retN ?_)
  | (with_reducible refine c_ifs ?_)
  | (with_reducible refine c_c ?_)
  | (with_reducible refine c_op ?_)
  | (with_reducible refine c_un ?_)
  | (with_reducible refine c_cb ?_)
  | (with_reducible refine c_nil ?_)
  | (with_reducible refine c_cons ?_)
  | (with_reducible refine c_call ?_)
  | (with_reducible refine c_callK ?_)
  | (with_reducible refine c_test ?_)
  | (with_reducible refine c_tB ?_)
  | (with_reducible refine c_and ?_)
  | (with_reducible refine c_or ?_)
  | (with_reducible refine c_not ?_)
  | (with_reducible refine c_andV ?_)
  | (with_reducible refine c_orV ?_)
  | (with_reducible refine c_notV ?_)
  | (with_reducible refine c_chain ?_)
  | (with_reducible refine c_sl ?_)
  | (with_reducible refine c_nop ?_)
  | (with_reducible refine c_part ?_)
  | (with_reducible refine c_lst ?_)
  | (with_reducible refine c_tup ?_)
  | (with_reducible refine c_bl ?_)
  | (with_reducible refine c_blP ?_)
  | (with_reducible refine c_parti ?_)
  | (with_reducible refine c_t ?_)
  | (with_reducible refine c_f ?_)
  | (with_reducible refine g_add_i ?_)
  | (with_reducible refine g_sub_i ?_)
  | (with_reducible refine g_neg ?_)
  | (with_reducible refine g_eq_i ?_)
  | (with_reducible refine g_eq_st ?_)
  | (with_reducible refine g_eq_b ?_)
  | (with_reducible refine g_ne_i ?_)
  | (with_reducible refine g_ne_st ?_)
  | (with_reducible refine g_ne_b ?_)
  | (with_reducible refine g_lt_i ?_)
  | (with_reducible refine g_le_i ?_)
  | (with_reducible refine g_gt_i ?_)
  | (with_reducible refine g_ge_i ?_)
  | (with_reducible refine g_le_s ?_)
  | (with_reducible refine g_in_s ?_)
  | (with_reducible refine g_ni_s ?_)
  | (with_reducible refine c_brk ?_)
  | (with_reducible refine c_cont ?_)
  | (with_reducible refine c_for ?_)
  | (with_reducible refine c_lcW ?_)
  | (with_reducible refine c_iList ?_)
  | (with_reducible refine c_iTup ?_)
  | (with_reducible refine c_iStr ?_)
  | (with_reducible refine c_iRng1 ?_)
  | (with_reducible refine c_iS ?_)
  | (with_reducible refine c_yes ?_)
  | (with_reducible refine c_sub ?_)
  | (with_reducible refine c_pair ?_)
  | (with_reducible refine c_pnil ?_)
  | (with_reducible refine c_isn ?_)
  | (with_reducible refine c_notn ?_)
  | (with_reducible refine c_sfld ?_)
  | (with_reducible refine c_fld ?_)
  | (with_reducible refine c_raise ?_)
  | (with_reducible refine c_meth0 ?_)
  | (with_reducible refine c_iEnum ?_)
  | (with_reducible refine c_bm ?_)
  | (with_reducible refine c_bm0 ?_)
  | (with_reducible refine c_mk ?_)
  | (with_reducible refine c_try ?_)
  | (with_reducible refine c_iEnumT ?_)
  | (with_reducible refine c_callKS ?_)
  | (with_reducible refine c_tryO ?_)
  | (with_reducible refine c_repl ?_)
  | (with_reducible refine c_fmt ?_)
  | (with_reducible refine c_fs ?_)
  | (with_reducible refine c_jn ?_)
  | (with_reducible refine c_jc ?_)
  | (with_reducible refine c_tru ?_)
  | (with_reducible refine c_m1 ?_)
  | (with_reducible refine c_dget ?_)
  | (with_reducible refine c_din ?_)
  | (with_reducible refine c_dni ?_)
  | (with_reducible refine c_dput ?_)
  | (with_reducible refine c_star ?_)
  | (with_reducible refine c_while ?_)
  | (with_reducible refine c_dcW ?_)
  | (with_reducible refine c_var0 ?_)
  | (with_reducible refine c_asg0 ?_)
  | (with_reducible refine c_nam0 ?_)
  | (with_reducible refine c_var1 ?_)
  | (with_reducible refine c_asg1 ?_)
  | (with_reducible refine c_nam1 ?_)
  | (with_reducible refine c_var2 ?_)
  | (with_reducible refine c_asg2 ?_)
  | (with_reducible refine c_nam2 ?_)
  | (with_reducible refine c_var3 ?_)
  | (with_reducible refine c_asg3 ?_)
  | (with_reducible refine c_nam3 ?_)
  | (with_reducible refine c_var4 ?_)
  | (with_reducible refine c_asg4 ?_)
  | (with_reducible refine c_nam4 ?_)
  | (with_reducible refine c_var5 ?_)
  | (with_reducible refine c_asg5 ?_)
  | (with_reducible refine c_nam5 ?_)
  | (with_reducible refine c_var6 ?_)
  | (with_reducible refine c_asg6 ?_)
  | (with_reducible refine c_nam6 ?_)
  | (with_reducible refine c_var7 ?_)
  | (with_reducible refine c_asg7 ?_)
  | (with_reducible refine c_nam7 ?_)
  | (with_reducible refine c_var8 ?_)
  | (with_reducible refine c_asg8 ?_)
  | (with_reducible refine c_nam8 ?_)
  | (with_reducible refine c_var9 ?_)
  | (with_reducible refine c_asg9 ?_)
  | (with_reducible refine c_nam9 ?_)
  | (with_reducible refine c_var10 ?_)
  | (with_reducible refine c_asg10 ?_)
  | (with_reducible refine c_nam10 ?_)
  | (with_reducible refine c_var11 ?_)
  | (with_reducible refine c_asg11 ?_)
  | (with_reducible refine c_nam11 ?_)
  | (with_reducible refine c_var12 ?_)
  | (with_reducible refine c_asg12 ?_)
  | (with_reducible refine c_nam12 ?_)
  | (with_reducible refine c_var13 ?_)
  | (with_reducible refine c_asg13 ?_)
  | (with_reducible refine c_nam13 ?_)
  | (with_reducible refine c_var14 ?_)
  | (with_reducible refine c_asg14 ?_)
  | (with_reducible refine c_nam14 ?_)
  | (with_reducible refine c_var15 ?_)
  | (with_reducible refine c_asg15 ?_)
  | (with_reducible refine c_nam15 ?_)
  | (with_reducible refine c_asgG ?_)
  | ((with_reducible refine g_ix_l (xs := ?gxa) (v := ?gxb) ?gx1 ?gx2 ?gx3); (case gx1 => walk_at "get"); (case gx2 => rfl))
  | ((with_reducible refine g_len_l (xs := ?gxa) (.inl ?gx1) ?gx3); (case gx1 => walk_at "get"))
  | ((with_reducible refine g_mod_i ?gx1 ?gx3); (case gx1 => omega)))
local macro_rules | `(tactic| walk_at "rs") => `(tactic| repeat walk_at "rs1")
section
variable {P : Program} {w : World} {K : PySem.W.Frag} {mg : Str → Option Value} {base : Heap} {Z : Ads}
theorem closedW {rs : List PR} {W : List Str} (h : ∀ z ∈ Gx.namesOf rs, z ∈ W) : ClosedS rs fun z => z ∈ W := fun r hr z hz _ => h z (List.mem_flatMap.mpr ⟨r, hr, List.mem_append_left _ hz⟩)
theorem passR_snoc (rs : List PR) (r : PR) (ks : List Str) : passR (rs ++ [r]) ks = addR (passR rs ks) r := by unfold passR; rw [List.foldl_append]; rfl
theorem passR_sub {rs : List PR} {ks : List Str} : ∀ z ∈ ks, z ∈ passR rs ks := by
  induction rs generalizing ks with
  | nil => exact fun z h => h
  | cons r rs ih => exact fun z h => ih z (List.mem_append_left _ h)
theorem rd__law_held {vs : List V} {H : Hp} {Q : VK} {E : XK} (h : sp__law_held K vs H Q E) : t__law_held K Z { nx := fun _ H' => Q .non H', rt := Q } (start ["pairs", "some", "found", "many", "head", "body", "one"] vs) H := by
  obtain ⟨pp, ps, ts, rs, ss, W, rfl, hpp, hP, hl, hps, hW1, hW2, hW3, nm, nd, q⟩ := h
  show t__law_held K Z _ [some (.ref pp), some (.ref ps), none, none, none, none, none] H
  unfold t__law_held
  have hlt := PsAt.len hP
  walk_at "rd"
  refine g_listS (.inl (sq_l hps)) (fun d H1 n1 e1 h1 => ?_)
  walk_at "rd"
  refine ⟨fun m σ H' => ∃ (ks : List Str) (many : Int) (y4 y5 y6 : Option V), σ = [some (.ref pp), some (.ref ps), some (.ref d), some (.int many), y4, y5, y6] ∧ Ex H H' ∧ H' d = some (.lst (ks.map V.str)) ∧ ks.Nodup ∧ (∀ z ∈ ss, z ∈ ks) ∧ (∀ S : Str → Prop, ClosedS rs S → (∀ z ∈ ss, S z) → ∀ z ∈ ks, S z) ∧
      (many = (ks.length : Int) → ClosedS rs fun z => z ∈ ks) ∧ m = if many = (ks.length : Int) then 0 else W.length + 1 - ks.length,
    ⟨_, ss, -1, none, none, none, rfl, e1, h1, nd, fun z h => h, fun S _ h => h, fun k => by omega, rfl⟩, ?_⟩
  rintro m σ H2 ⟨ks, many, y4, y5, y6, rfl, e2, h2, knd, ksub, kle, kcl, rfl⟩
  have kW : ks.length ≤ W.length := nodup_le knd (kle (fun z => z ∈ W) (closedW hW1) hW2)
  walk_at "rs"
  rw [List.length_map]
  refine c_nd (fun hne => ?_) (fun heq => ?_)
  · rw [if_neg hne]
    refine ⟨_, fun σ' H' h => h, ?_⟩
    walk_at "rd"
    rw [List.length_map]
    have hpp2 := e2 _ _ hpp
    have npd : pp ≠ d := fun k => by rw [k, n1] at hpp; cases hpp
    refine c_iL (sq_l hpp2) ?_
    refine for_it walk_list (fun i σ H' => ∃ (y4 y5 y6 : Option V), σ = [some (.ref pp), some (.ref ps), some (.ref d), some (.int (ks.length : Nat)), y4, y5, y6] ∧ Exb d H2 H' ∧ H' d = some (.lst ((passR (rs.take i) ks).map V.str))) ⟨y4, y5, y6, rfl, fun _ _ _ h => h, h2⟩ (fun _ _ _ _ h => by obtain ⟨_, _, _, _, e, _⟩ := h; exact sq_l (e _ _ npd hpp2)) ?_ ?_
    · rintro i x σ H8 H9 hi ⟨y4, y5, y6, rfl, e9, h9⟩ ⟨rfl, hx⟩
      rw [List.getElem?_map] at hx
      obtain ⟨t, ht, rfl⟩ := Option.map_eq_some_iff.mp hx
      obtain ⟨r, hr, b, hb1, hb2, hg⟩ := PsAt.get hP ht
      obtain ⟨hhd, hbl, hbn, _⟩ := pair_facts hg
      have up : ∀ {x : Addr} {xs : List V}, H x = some (.tup xs) → H9 x = some (.tup xs) := fun {x xs} h => e9 _ _ (fun k => by rw [k, n1] at h; cases h) (e2 _ _ h)
      have kkW : (passR (rs.take i) ks).length ≤ W.length := nodup_le (passR_nd _ knd) (passR_least (closedW hW1) _ (fun r hr => List.mem_of_mem_take hr) (kle (fun z => z ∈ W) (closedW hW1) hW2))
      have hsn : passR (rs.take (i + 1)) ks = addR (passR (rs.take i) ks) r := by rw [take_snoc hr, passR_snoc]
      rw [hsn]
      generalize passR (rs.take i) ks = kk at h9 kkW
      have no : (headsOf r.1).filter (fun z => decide (z ∉ kk) && r.2.all fun x => decide (x ∈ kk)) = [] → addR kk r = kk := fun k => by unfold addR; rw [k, List.append_nil]
      refine g_pair (.inl (.inl (up hb1))) ?_
      walk_at "rd"
      rcases hhd with hn | ⟨z, hz, nz⟩
      · rw [hn]
        refine c_nd (fun k => absurd rfl k) (fun _ => ?_)
        walk_at "rd"
        exact ⟨_, _, _, rfl, e9, by rw [no (by rw [hn]; rfl)]; exact h9⟩
      · rw [hz]
        refine c_nd (fun _ => ?_) (fun k => by cases k)
        walk_at "rd"
        refine g_ni_l (.inl (sq_l h9)) (by simp [flatV]) (by simp [flatV]) ?_
        rw [inV_strs]
        refine ⟨_, rfl, ?_⟩
        refine c_nd (fun kn => ?_) (fun kn => ?_)
        · walk_at "rd"
          refine c_iT (.inl (.inl (up hb2))) ?_
          refine c_lc walk_tup (fun i acc => acc = (((r.2.take i).filter fun x => !decide (x ∈ kk)).map V.str)) (σ0 := [some (.ref pp), some (.ref ps), some (.ref d), some (.int (ks.length : Nat)), some (V.str z), some (V.ref b), none]) rfl (by rw [List.length_map]; omega) rfl (fun H' e' => .inl (.inl (e' _ _ (up hb2)))) ?_ ?_
          · rintro j acc x HA HB Q1 Q0 hj rfl eA ⟨hAB, hx⟩ k1 k0
            subst hAB
            rw [List.getElem?_map] at hx
            obtain ⟨x', hx', rfl⟩ := Option.map_eq_some_iff.mp hx
            have ks : (((r.2.take (j + 1)).filter fun x => !decide (x ∈ kk)).map V.str) = (((r.2.take j).filter fun x => !decide (x ∈ kk)).map V.str) ++ ([x'].filter fun x => !decide (x ∈ kk)).map V.str := by
              rw [take_snoc hx', List.filter_append, List.map_append]
            walk_at "rs"
            refine ⟨rfl, ?_⟩
            walk_at "rs"
            refine g_ni_l (.inl (sq_l (eA _ _ h9))) (by simp [flatV]) (by simp [flatV]) ?_
            rw [inV_strs]
            refine ⟨_, rfl, ?_⟩
            refine c_nd (fun km => ?_) (fun km => ?_)
            · walk_at "rs"
              refine k1 _ _ (Ex.refl _) ?_
              rw [ks]; simp [km]
            · refine k0 _ (Ex.refl _) ?_
              rw [ks]; simp [km]
          · rintro D HB xs hD eB rfl _ hB
            rw [List.length_map, List.take_of_length_le (Nat.le_refl _)] at hB
            walk_at "rs"
            refine c_lstE (by simp) (fun pf HC nC eC hC => ?_)
            refine g_eq_e (sq_l (eC _ _ hB)) (sq_l hC) (ok_names fun x hx => hbn x (List.mem_filter.mp hx).1) ?_
            refine ⟨_, rfl, ?_⟩
            have h9C := eC _ _ (eB _ _ h9)
            refine c_d (fun ka => ?_) (fun ka => ?_)
            · have hall : (r.2.all fun x => decide (x ∈ kk)) = true := by
                rw [List.all_eq_true]
                intro x hx
                have := List.map_eq_nil_iff.mp ka
                rw [List.filter_eq_nil_iff] at this
                simpa using this x hx
              walk_at "rs"
              refine ⟨ty_l h9C, ?_⟩
              walk_at "rs"
              refine g_append h9C (by rw [List.length_map]; omega) (fun HE eE hE => ?_)
              walk_at "rs"
              refine ⟨_, _, _, rfl, fun x o hx ho => eE _ _ hx (eC _ _ (eB _ _ (e9 _ _ hx ho))), ?_⟩
              have e1 : (headsOf r.1).filter (fun z => decide (z ∉ kk) && r.2.all fun x => decide (x ∈ kk)) = [z] := by
                rw [hz, hall]; show [z].filter _ = _; rw [List.filter_cons_of_pos (by simp [kn])]; rfl
              unfold addR
              rw [hE, e1, List.map_append]; rfl
            · have hall : (r.2.all fun x => decide (x ∈ kk)) = false := by
                rw [← Bool.not_eq_true]
                intro k
                refine ka (List.map_eq_nil_iff.mpr ?_)
                rw [List.filter_eq_nil_iff]
                intro x hx
                simpa using List.all_eq_true.mp k x hx
              walk_at "rs"
              refine ⟨_, _, _, rfl, fun x o hx ho => eC _ _ (eB _ _ (e9 _ _ hx ho)), ?_⟩
              rw [no (by rw [hz, hall]; show [z].filter _ = _; rw [List.filter_cons_of_neg (by simp)]; rfl)]
              exact h9C
        · walk_at "rd"
          exact ⟨_, _, _, rfl, e9, by rw [no (by rw [hz]; show [z].filter _ = _; rw [List.filter_cons_of_neg (by simp [kn])]; rfl)]; exact h9⟩
    · rintro σ H8 ⟨y4, y5, y6, rfl, e8, h8⟩
      rw [List.length_map, hlt, List.take_of_length_le (Nat.le_refl _)] at h8
      obtain ⟨l1, l2⟩ := passR_len rs ks
      have nd8 := passR_nd rs knd
      have le8 := fun S hS hs => passR_least (S := S) hS rs (fun r hr => hr) (kle S hS hs)
      have W8 : (passR rs ks).length ≤ W.length := nodup_le nd8 (le8 (fun z => z ∈ W) (closedW hW1) hW2)
      have ex8 : Ex H H8 := fun x o ho => e8 _ _ (fun k => by rw [k, n1] at ho; cases ho) (e2 _ _ ho)
      refine ⟨if ((ks.length : Nat) : Int) = ((passR rs ks).length : Int) then 0 else W.length + 1 - (passR rs ks).length, ?_, passR rs ks, _, _, _, _, rfl, ex8, h8, nd8, fun z hz => passR_sub z (ksub z hz), le8, fun k => ?_, rfl⟩
      · split <;> omega
      · obtain ⟨p1, p2⟩ := l2 (by omega)
        rw [p1]; exact p2
  · walk_at "rd"
    exact q ks d H2 e2 n1 ⟨knd, ksub, kcl heq, kle⟩ h2

end
end K11

set_option maxHeartbeats 800000
namespace K11
open PySem PySem.Spec PyProof.Rows L2 Evl Gx
local macro_rules | `(tactic| walk_at "get") => `(tactic| first
  | assumption
  | exact upd_same
  | ((with_reducible refine sq_l ?_); walk_at "get")
  | ((with_reducible refine sq_t ?_); walk_at "get")
  | ((with_reducible refine ex_l (by assumption) ?_); walk_at "get")
  | ((with_reducible refine ex_t (by assumption) ?_); walk_at "get")
  | ((with_reducible refine Draw.ex (by assumption) ?_); walk_at "get")
  | ((with_reducible refine Arg.ex (by assumption) ?_); walk_at "get")
  | ((with_reducible refine IsRule.ex (by assumption) ?_); walk_at "get")
  | ((with_reducible refine Thing.ex (by assumption) ?_); walk_at "get")
  | ((with_reducible refine exget (by assumption) ?_); walk_at "get"))
local macro_rules | `(tactic| walk_at "rd1") => `(tactic| first
  | (with_reducible refine c_seq ?_)
  | (with_reducible refine c_next ?_)
  | (with_reducible refine c_drop ?_)
  | (with_reducible refine c_ret ?_)
  | (with_reducible refine c_retN ?_)
  | (with_reducible refine c_ifs ?_)
  | (with_reducible refine c_c ?_)
  | (with_reducible refine c_op ?_)
  | (with_reducible refine c_un ?_)
  | (with_reducible refine c_cb ?_)
  | (with_reducible refine c_nil ?_)
  | (with_reducible refine c_cons ?_)
  | (with_reducible refine c_call ?_)
  | (with_reducible refine c_callK ?_)
  | (with_reducible refine c_test ?_)
  | (with_reducible refine c_tB ?_)
  | (with_reducible refine c_and ?_)
  | (with_reducible refine c_or ?_)
  | (with_reducible refine c_not ?_)
  | (with_reducible refine c_andV ?_)
  | (with_reducible refine c_orV ?_)
  | (with_reducible refine c_notV ?_)
  | (with_reducible refine c_if ?_)
  | (with_reducible refine c_chain ?_)
  | (with_reducible refine c_sl ?_)
  | (with_reducible refine c_nop ?_)
  | (with_reducible refine c_part ?_)
  | (with_reducible refine c_lst ?_)
  | (with_reducible refine c_tup ?_)
  | (with_reducible refine c_bl ?_)
  | (with_reducible refine c_blP ?_)
  | (with_reducible refine c_parti ?_)
  | (with_reducible refine c_t ?_)
  | (with_reducible refine c_f ?_)
  | (with_reducible refine g_add_i ?_)
  | (with_reducible refine g_sub_i ?_)
  | (with_reducible refine g_neg ?_)
  | (with_reducible refine g_eq_i ?_)
  | (with_reducible refine g_eq_st ?_)
  | (with_reducible refine g_eq_b ?_)
  | (with_reducible refine g_ne_i ?_)
  | (with_reducible refine g_ne_st ?_)
  | (with_reducible refine g_ne_b ?_)
  | (with_reducible refine g_lt_i ?_)
  | (with_reducible refine g_le_i ?_)
  | (with_reducible refine g_gt_i ?_)
  | (with_reducible refine g_ge_i ?_)
  | (with_reducible refine g_le_s ?_)
  | (with_reducible refine g_in_s ?_)
  | (with_reducible refine g_ni_s ?_)
  | (with_reducible refine c_brk ?_)
  | (with_reducible refine c_cont ?_)
  | (with_reducible refine c_for ?_)
  | (with_reducible refine c_lcW ?_)
  | (with_reducible refine c_iList ?_)
  | (with_reducible refine c_iTup ?_)
  | (with_reducible refine c_iStr ?_)
  | (with_reducible refine c_iRng1 ?_)
  | (with_reducible refine c_iS ?_)
  | (with_reducible refine c_yes ?_)
  | (with_reducible refine c_sub ?_)
  | (with_reducible refine c_pair ?_)
  | (with_reducible refine c_pnil ?_)
  | (with_reducible refine c_isn ?_)
  | (with_reducible refine c_notn ?_)
  | (with_reducible refine c_sfld ?_)
  | (with_reducible refine c_fld ?_)
  | (with_reducible refine c_raise ?_)
  | (with_reducible refine c_meth0 ?_)
  | (with_reducible refine c_iEnum ?_)
  | (with_reducible refine c_bm ?_)
  | (with_reducible refine c_bm0 ?_)
  | (with_reducible refine c_mk ?_)
  | (with_reducible refine c_try ?_)
  | (with_reducible refine c_iEnumT ?_)
  | (with_reducible refine c_callKS ?_)
  | (with_reducible refine c_tryO ?_)
  | (with_reducible refine c_repl ?_)
  | (with_reducible refine c_fmt ?_)
  | (with_reducible refine c_fs ?_)
  | (with_reducible refine c_jn ?_)
  | (with_reducible refine c_jc ?_)
  | (with_reducible refine c_tru ?_)
  | (with_reducible refine c_m1 ?_)
  | (with_reducible refine c_dget ?_)
  | (with_reducible refine c_din ?_)
  | (with_reducible refine c_dni ?_)
  | (with_reducible refine c_dput ?_)
  | (with_reducible refine c_star ?_)
  | (with_reducible refine c_while ?_)
  | (with_reducible refine c_dcW ?_)
  | (with_reducible refine c_var0 ?_)
  | (with_reducible refine c_asg0 ?_)
  | (with_reducible refine c_nam0 ?_)
  | (with_reducible refine c_var1 ?_)
  | (with_reducible refine c_asg1 ?_)
  | (with_reducible refine c_nam1 ?_)
  | (with_reducible refine c_var2 ?_)
  | (with_reducible refine c_asg2 ?_)
  | (with_reducible refine c_nam2 ?_)
  | (with_reducible refine c_var3 ?_)
  | (with_reducible refine c_asg3 ?_)
  | (with_reducible refine c_nam3 ?_)
  | (with_reducible refine c_var4 ?_)
  | (with_reducible refine c_asg4 ?_)
  | (with_reducible refine c_nam4 ?_)
  | (with_reducible refine c_var5 ?_)
  | (with_reducible refine c_asg5 ?_)
  | (with_reducible refine c_nam5 ?_)
  | (with_reducible refine c_var6 ?_)
  | (with_reducible refine c_asg6 ?_)
  | (with_reducible refine c_nam6 ?_)
  | (with_reducible refine c_var7 ?_)
  | (with_reducible refine c_asg7 ?_)
  | (with_reducible refine c_nam7 ?_)
  | (with_reducible refine c_var8 ?_)
  | (with_reducible refine c_asg8 ?_)
  | (with_reducible refine c_nam8 ?_)
  | (with_reducible refine c_var9 ?_)
  | (with_reducible refine c_asg9 ?_)
  | (with_reducible refine c_nam9 ?_)
  | (with_reducible refine c_var10 ?_)
  | (with_reducible refine c_asg10 ?_)
  | (with_reducible refine c_nam10 ?_)
  | (with_reducible refine c_var11 ?_)
  | (with_reducible refine c_asg11 ?_)
  | (with_reducible refine c_nam11 ?_)
  | (with_reducible refine c_var12 ?_)
  | (with_reducible refine c_asg12 ?_)
  | (with_reducible refine c_nam12 ?_)
  | (with_reducible refine c_var13 ?_)
  | (with_reducible refine c_asg13 ?_)
  | (with_reducible refine c_nam13 ?_)
  | (with_reducible refine c_var14 ?_)
  | (with_reducible refine c_asg14 ?_)
  | (with_reducible refine c_nam14 ?_)
  | (with_reducible refine c_var15 ?_)
  | (with_reducible refine c_asg15 ?_)
  | (with_reducible refine c_nam15 ?_)
  | (with_reducible refine c_asgG ?_)
  | ((with_reducible refine g_ix_l (xs := ?gxa) (v := ?gxb) ?gx1 ?gx2 ?gx3); (case gx1 => walk_at "get"); (case gx2 => rfl))
  | ((with_reducible refine g_len_l (xs := ?gxa) (.inl ?gx1) ?gx3); (case gx1 => walk_at "get"))
  | ((with_reducible refine g_mod_i ?gx1 ?gx3); (case gx1 => omega)))
local macro_rules | `(tactic| walk_at "rd") => `(tactic| repeat walk_at "rd1")
local macro_rules | `(tactic| walk_at "rs1") => `(tactic| first
  | (with_reducible refine c_next ?_)
  | (with_reducible refine c_drop ?_)
  | (with_reducible refine c_ret ?_)
  | (with_reducible refine c_retN ?_)
  | (with_reducible refine c_ifs ?_)
  | (with_reducible refine c_c ?_)
  | (with_reducible refine c_op ?_)
  | (with_reducible refine c_un ?_)
  | (with_reducible refine c_cb ?_)
  | (with_reducible refine c_nil ?_)
  | (with_reducible refine c_cons ?_)
  | (with_reducible refine c_call ?_)
  | (with_reducible refine c_callK ?_)
  | (with_reducible refine c_test ?_)
  | (with_reducible refine c_tB ?_)
  | (with_reducible refine c_and ?_)
  | (with_reducible refine c_or ?_)
  | (with_reducible refine c_not ?_)
  | (with_reducible refine c_andV ?_)
  | (with_reducible refine c_orV ?_)
  | (with_reducible refine c_notV ?_)
  | (with_reducible refine c_chain ?_)
  | (with_reducible refine c_sl ?_)
  | (with_reducible refine c_nop ?_)
  | (with_reducible refine c_part ?_)
  | (with_reducible refine c_lst ?_)
  | (with_reducible refine c_tup ?_)
  | (with_reducible refine c_bl ?_)
  | (with_reducible refine c_blP ?_)
  | (with_reducible refine c_parti ?_)
  | (with_reducible refine c_t ?_)
  | (with_reducible refine c_f ?_)
  | (with_reducible refine g_add_i ?_)
  | (with_reducible refine g_sub_i ?_)
  | (with_reducible refine g_neg ?_)
  | (with_reducible refine g_eq_i ?_)
  | (with_reducible refine g_eq_st ?_)
  | (with_reducible refine g_eq_b ?_)
  | (with_reducible refine g_ne_i ?_)
  | (with_reducible refine g_ne_st ?_)
  | (with_reducible refine g_ne_b ?_)
  | (with_reducible refine g_lt_i ?_)
  | (with_reducible refine g_le_i ?_)
  | (with_reducible refine g_gt_i ?_)
  | (with_reducible refine g_ge_i ?_)
  | (with_reducible refine g_le_s ?_)
  | (with_reducible refine g_in_s ?_)
  | (with_reducible refine g_ni_s ?_)
  | (with_reducible refine c_brk ?_)
  | (with_reducible refine c_cont ?_)
  | (with_reducible refine c_for ?_)
  | (with_reducible refine c_lcW ?_)
  | (with_reducible refine c_iList ?_)
  | (with_reducible refine c_iTup ?_)
  | (with_reducible refine c_iStr ?_)
  | (with_reducible refine c_iRng1 ?_)
  | (with_reducible refine c_iS ?_)
  | (with_reducible refine c_yes ?_)
  | (with_reducible refine c_sub ?_)
  | (with_reducible refine c_pair ?_)
  | (with_reducible refine c_pnil ?_)
  | (with_reducible refine c_isn ?_)
  | (with_reducible refine c_notn ?_)
  | (with_reducible refine c_sfld ?_)
  | (with_reducible refine c_fld ?_)
  | (with_reducible refine c_raise ?_)
  | (with_reducible refine c_meth0 ?_)
  | (with_reducible refine c_iEnum ?_)
  | (with_reducible refine c_bm ?_)
  | (with_reducible refine c_bm0 ?_)
  | (with_reducible refine c_mk ?_)
  | (with_reducible refine c_try ?_)
  | (with_reducible refine c_iEnumT ?_)
  | (with_reducible refine c_callKS ?_)
  | (with_reducible refine c_tryO ?_)
  | (with_reducible refine c_repl ?_)
  | (with_reducible refine c_fmt ?_)
  | (with_reducible refine c_fs ?_)
  | (with_reducible refine c_jn ?_)
  | (with_reducible refine c_jc ?_)
  | (with_reducible refine c_tru ?_)
  | (with_reducible refine c_m1 ?_)
  | (with_reducible refine c_dget ?_)
  | (with_reducible refine c_din ?_)
  | (with_reducible refine c_dni ?_)
  | (with_reducible refine c_dput ?_)
  | (with_reducible refine c_star ?_)
  | (with_reducible refine c_while ?_)
  | (with_reducible refine c_dcW ?_)
  | (with_reducible refine c_var0 ?_)
  | (with_reducible refine c_asg0 ?_)
  | (with_reducible refine c_nam0 ?_)
  | (with_reducible refine c_var1 ?_)
  | (with_reducible refine c_asg1 ?_)
  | (with_reducible refine c_nam1 ?_)
  | (with_reducible refine c_var2 ?_)
  | (with_reducible refine c_asg2 ?_)
  | (with_reducible refine c_nam2 ?_)
  | (with_reducible refine c_var3 ?_)
  | (with_reducible refine c_asg3 ?_)
  | (with_reducible refine c_nam3 ?_)
  | (with_reducible refine c_var4 ?_)
  | (with_reducible refine c_asg4 ?_)
  | (with_reducible refine c_nam4 ?_)
  | (with_reducible refine c_var5 ?_)
  | (with_reducible refine c_asg5 ?_)
  | (with_reducible refine c_nam5 ?_)
  | (with_reducible refine c_var6 ?_)
  | (with_reducible refine c_asg6 ?_)
  | (with_reducible refine c_nam6 ?_)
  | (with_reducible refine c_var7 ?_)
  | (with_reducible refine c_asg7 ?_)
  | (with_reducible refine c_nam7 ?_)
  | (with_reducible refine c_var8 ?_)
  | (with_reducible refine c_asg8 ?_)
  | (with_reducible refine c_nam8 ?_)
  | (with_reducible refine c_var9 ?_)
  | (with_reducible refine c_asg9 ?_)
  | (with_reducible refine c_nam9 ?_)
  | (with_reducible refine c_var10 ?_)
  | (with_reducible refine c_asg10 ?_)
  | (with_reducible refine c_nam10 ?_)
  | (with_reducible refine c_var11 ?_)
  | (with_reducible refine c_asg11 ?_)
  | (with_reducible refine c_nam11 ?_)
  | (with_reducible refine c_var12 ?_)
  | (with_reducible refine c_asg12 ?_)
  | (with_reducible refine c_nam12 ?_)
  | (with_reducible refine c_var13 ?_)
  | (with_reducible refine c_asg13 ?_)
  | (with_reducible refine c_nam13 ?_)
  | (with_reducible refine c_var14 ?_)
  | (with_reducible refine c_asg14 ?_)
  | (with_reducible refine c_nam14 ?_)
  | (with_reducible refine c_var15 ?_)
  | (with_reducible refine c_asg15 ?_)
  | (with_reducible refine c_nam15 ?_)
  | (with_reducible refine c_asgG ?_)
  | ((with_reducible refine g_ix_l (xs := ?gxa) (v := ?gxb) ?gx1 ?gx2 ?gx3); (case gx1 => walk_at "get"); (case gx2 => rfl))
  | ((with_reducible refine g_len_l (xs := ?gxa) (.inl ?gx1) ?gx3); (case gx1 => walk_at "get"))
  | ((with_reducible refine g_mod_i ?gx1 ?gx3); (case gx1 => omega)))
local macro_rules | `(tactic| walk_at "rs") => `(tactic| repeat walk_at "rs1")
section
variable {P : Program} {w : World} {K : PySem.W.Frag} {mg : Str → Option Value} {base : Heap} {Z : Ads}
theorem isi_str {H : Hp} {Q : VK} {x : Str} {m : String} (hm : m ∈ kinds) (hn : m ≠ "str") (q : Q (.bl false) H) : gIsi K [.str x, .ty m] H Q :=
  g_isi (b := false) (.ty m) (.base (.str _)) (by rw [kit_kinds (n := "str") (by decide) hm]; revert hn; revert hm; revert m; decide) q
theorem rd__law_same0 {vs : List V} {H : Hp} {Q : VK} {E : XK} (h : sp__law_same0 K vs H Q E) : t__law_same0 K Z { nx := fun _ H' => Q .non H', rt := Q } (start ["found", "due", "one", "other"] vs) H := by
  obtain ⟨x, y, rfl, q⟩ := h
  show t__law_same0 K Z _ [some (.str x), some (.str y), none, none] H
  unfold t__law_same0
  walk_at "rd"
  refine g_isi (b := false) (.ty "list") (.base (.str _)) (kit_kinds (n := "str") (by decide) (by decide)) ?_
  refine ⟨_, rfl, ?_⟩
  refine c_f ?_
  walk_at "rd"
  refine g_isi (b := false) (.ty "tuple") (.base (.str _)) (kit_kinds (n := "str") (by decide) (by decide)) ?_
  refine ⟨_, rfl, ?_⟩
  refine c_f ?_
  walk_at "rd"
  refine c_d (fun k => by cases k) (fun _ => ?_)
  walk_at "rd"
  refine g_isi (b := false) (.ty "int") (.base (.str _)) (kit_kinds (n := "str") (by decide) (by decide)) ?_
  refine ⟨_, rfl, ?_⟩
  refine c_f ?_
  walk_at "rd"
  refine g_isi (b := true) (.ty "str") (.base (.str _)) (kit_kinds (n := "str") (by decide) (by decide)) ?_
  refine ⟨_, rfl, ?_⟩
  refine c_t ?_
  walk_at "rd"
  exact q _ (Ex.refl _)
theorem c_iZip {σ : L2.St} {H : Hp} {ta : TA} {R : It → Hp → Prop} (h : ta σ H fun vs H1 => ∃ a b xs ys, vs = [.ref a, .ref b] ∧ SqL K H1 a xs ∧ SqL K H1 b ys ∧ R (Itz K a b) H1) : iZip K ta σ H R := h
theorem zip_all : ∀ {xs ys : List Str}, xs.length = ys.length → ((List.zipWith (fun a b => decide (a = b)) xs ys).all id) = decide (xs = ys)
  | [], [], _ => rfl
  | x :: xs, y :: ys, h => by
    rw [List.zipWith_cons_cons, List.all_cons, zip_all (by simpa using h)]
    simp [Bool.decide_and]
  | [], _ :: _, h => by cases h
  | _ :: _, [], h => by cases h
theorem rd__law_same {vs : List V} {H : Hp} {Q : VK} {E : XK} (h : sp__law_same K vs H Q E) : t__law_same K Z { nx := fun _ H' => Q .non H', rt := Q } (start ["found", "due", "one", "other"] vs) H := by
  obtain ⟨p, q0, xs, ys, rfl, hp, hq, lx, ly, q⟩ := h
  show t__law_same K Z _ [some (.ref p), some (.ref q0), none, none] H
  unfold t__law_same
  walk_at "rd"
  refine g_isi (b := true) (.ty "list") (.base (.lst hq)) (kit_kinds (n := "list") (by decide) (by decide)) ?_
  refine ⟨_, rfl, ?_⟩
  refine c_t ?_
  walk_at "rd"
  refine g_isi (b := true) (.ty "list") (.base (.lst hp)) (kit_kinds (n := "list") (by decide) (by decide)) ?_
  refine ⟨_, rfl, ?_⟩
  refine c_2 (fun h => by cases h) (fun _ => ?_)
  walk_at "rd"
  rw [List.length_map, List.length_map]
  refine c_nd (fun hne => ?_) (fun heq => ?_)
  · walk_at "rd"
    have := q H (Ex.refl _)
    rw [decide_eq_false (fun k => hne (by rw [k]))] at this
    exact this
  have hlen : xs.length = ys.length := by omega
  walk_at "rd"
  refine c_iZip ?_
  walk_at "rd"
  refine ⟨p, q0, _, _, rfl, sq_l hp, sq_l hq, ?_⟩
  refine c_lc (walk_zip (n := xs.length) (by rw [List.length_map, List.length_map]; omega)) (fun i acc => acc = ((List.zipWith (fun a b => decide (a = b)) (xs.take i) (ys.take i)).map V.bl)) (σ0 := [some (.ref p), some (.ref q0), none, none]) rfl (by omega) rfl (fun H' e' => ⟨sq_l (e' _ _ hp), sq_l (e' _ _ hq)⟩) ?_ ?_
  · rintro i acc x HA HB Q1 Q0 hi rfl eA ⟨T, x1, y1, rfl, nT, rfl, hx1, hy1⟩ k1 k0
    replace hx1 : (xs.map V.str)[i]? = some x1 := hx1
    replace hy1 : (ys.map V.str)[i]? = some y1 := hy1
    rw [List.getElem?_map] at hx1 hy1
    obtain ⟨x, hx, rfl⟩ := Option.map_eq_some_iff.mp hx1
    obtain ⟨y, hy, rfl⟩ := Option.map_eq_some_iff.mp hy1
    refine g_pair (sq_t upd_same) ?_
    walk_at "rs"
    refine ⟨rfl, ?_⟩
    walk_at "rs"
    refine ⟨x, y, rfl, fun HC eC => ?_⟩
    refine k1 _ _ ((Ex.new nT).trans eC) ?_
    rw [take_snoc hx, take_snoc hy, List.zipWith_append (by rw [List.length_take, List.length_take]; omega), List.map_append]
    rfl
  · rintro D HB zs hD eB rfl _ hB
    rw [List.take_of_length_le (Nat.le_refl _), List.take_of_length_le (Nat.le_of_eq hlen.symm)] at hB
    walk_at "rs"
    refine g_all (sq_l hB) ?_
    have := q HB eB
    rw [← zip_all hlen] at this
    exact this
/-- tuples of names at addresses -/
def Bs (H : Hp) (bs : List (Addr × List Str)) : Prop := ∀ p ∈ bs, H p.1 = some (.tup (p.2.map V.str)) ∧ p.2.length ≤ 6 ∧ Names p.2
def dBs (bs : List (Addr × List Str)) : List PyData := bs.map fun p => .tuple ((p.2.map V.str).map dV)
theorem Bs.ex {H H' : Hp} {bs : List (Addr × List Str)} (e : Ex H H') (h : Bs H bs) : Bs H' bs := fun p hp => ⟨e _ _ (h p hp).1, (h p hp).2⟩
theorem bs_dp {H : Hp} : ∀ {bs : List (Addr × List Str)}, Bs H bs → DpAll K H (bs.map fun p => V.ref p.1) (dBs bs)
  | [], _ => .nil
  | p :: bs, h => .cons (dp_names (h p (.head _)).2.2 (.inl (.inl (h p (.head _)).1))) (bs_dp fun q hq => h q (.tail _ hq))
theorem bs_lay {H : Hp} : ∀ {bs : List (Addr × List Str)}, Bs H bs → PyData.canLayAll0 (dBs bs) = true ∧ PyData.depthAll (dBs bs) ≤ 1
  | [], _ => ⟨rfl, by decide⟩
  | p :: bs, h => by
    obtain ⟨l1, l2⟩ := lay_names (h p (.head _)).2.2
    obtain ⟨h1, h2⟩ := bs_lay (bs := bs) fun q hq => h q (.tail _ hq)
    constructor
    · show (PyData.canLay0 (.tuple ((p.2.map V.str).map dV)) && PyData.canLayAll0 (dBs bs)) = true
      rw [l1, h1]; rfl
    · show max (PyData.depth (.tuple ((p.2.map V.str).map dV))) (PyData.depthAll (dBs bs)) ≤ 1
      rw [l2]; omega
theorem bs_shaped {H : Hp} {bs : List (Addr × List Str)} (h : Bs H bs) : SeqAt.shaped (.list (dBs bs)) = true := by
  obtain ⟨h1, h2⟩ := bs_lay h
  unfold SeqAt.shaped
  rw [show (PyData.list (dBs bs)).canLay0 = true by simpa [PyData.canLay0] using h1, decide_eq_true (show (PyData.list (dBs bs)).depth ≤ 64 by show PyData.depthAll (dBs bs) + 1 ≤ 64; omega)]
  rfl
theorem g_ne_bs {H : Hp} {Q : VK} {p q : Addr} {bs : List (Addr × List Str)} (hb : Bs H bs) (hp : SqL K H p (bs.map fun p => V.ref p.1)) (hq : SqL K H q []) (h : Q (.bl (!bs.isEmpty)) H) : gNe K (.ref p) (.ref q) H Q := by
  refine g_ne_d (.lst hp (bs_dp hb)) (.lst hq .nil) (bs_shaped hb) (shaped_l (xs := []) rfl) ?_
  cases bs with
  | nil => exact h
  | cons b bs => exact h
theorem rd__law_clash {vs : List V} {H : Hp} {Q : VK} {E : XK} (h : sp__law_clash K vs H Q E) : t__law_clash K Z { nx := fun _ H' => Q .non H', rt := Q } (start ["pairs", "names", "bodies", "head", "body", "name"] vs) H := by
  obtain ⟨pp, pn, ts, rs, ns, rfl, hpp, hP, hl, hpn, hnl, q⟩ := h
  show t__law_clash K Z _ [some (.ref pp), some (.ref pn), none, none, none, none] H
  unfold t__law_clash
  have hlt := PsAt.len hP
  walk_at "rd"
  refine c_iL (sq_l hpp) ?_
  refine c_lc walk_list (fun i acc => ∃ bs : List (Addr × List Str), acc = bs.map (fun p => V.ref p.1) ∧ Bs H bs ∧ neverIn (rs.take i) ns = bs.any (fun p => p.2.all fun x => decide (x ∈ ns)) ∧ bs.length ≤ i) (σ0 := [some (.ref pp), some (.ref pn), none, none, none, none]) rfl (by rw [List.length_map]; omega) ⟨[], rfl, fun p hp => (by cases hp), rfl, Nat.le_refl _⟩ (fun H' e' => sq_l (e' _ _ hpp)) ?_ ?_
  · rintro i acc x HA HB Q1 Q0 hi ⟨bs, rfl, hB, hN, hbl⟩ eA ⟨hAB, hx⟩ k1 k0
    subst hAB
    rw [List.getElem?_map] at hx
    obtain ⟨t, ht, rfl⟩ := Option.map_eq_some_iff.mp hx
    obtain ⟨r, hr, b, hb1, hb2, hg⟩ := PsAt.get hP ht
    obtain ⟨hhd, hbl6, hbn, _⟩ := pair_facts hg
    refine g_pair (.inl (.inl (eA _ _ hb1))) ?_
    walk_at "rs"
    refine ⟨rfl, ?_⟩
    walk_at "rs"
    refine c_d (fun hn => ?_) (fun hn => ?_)
    · walk_at "rs"
      refine k1 _ _ (Ex.refl _) ⟨bs ++ [(b, r.2)], by rw [List.map_append]; rfl, ?_, ?_, by rw [List.length_append]; simp only [List.length_cons, List.length_nil]; omega⟩
      · intro p hp
        rcases List.mem_append.mp hp with k | k
        · exact hB p k
        · rw [List.mem_singleton.mp k]; exact ⟨hb2, hbl6, hbn⟩
      · rw [take_snoc hr, never_snoc, hN, List.any_append, decide_eq_true hn]; simp
    · refine k0 _ (Ex.refl _) ⟨bs, rfl, hB, ?_, by omega⟩
      rw [take_snoc hr, never_snoc, hN, decide_eq_false hn]; simp
  · rintro D H1 xs hD e1 ⟨bs, rfl, hB, hN, hbl⟩ _ h1
    rw [List.length_map, hlt, List.take_of_length_le (Nat.le_refl _)] at hN
    rw [List.length_map] at hbl
    walk_at "rd"
    refine c_iL (sq_l h1) ?_
    refine c_lc walk_list (fun i acc => ∃ cs : List (Addr × List Str), acc = cs.map (fun p => V.ref p.1) ∧ Bs H cs ∧ (!cs.isEmpty) = (bs.take i).any (fun p => p.2.all fun x => decide (x ∈ ns))) (σ0 := [some (.ref pp), some (.ref pn), some (.ref D), none, none, none]) rfl (by rw [List.length_map]; omega) ⟨[], rfl, fun p hp => (by cases hp), rfl⟩ (fun H' e' => sq_l (e' _ _ h1)) ?_ ?_
    · rintro i acc x HA HB Q1 Q0 hi ⟨cs, rfl, hC, hCN⟩ eA ⟨hAB, hx⟩ k1 k0
      subst hAB
      rw [List.getElem?_map] at hx
      obtain ⟨p, hp, rfl⟩ := Option.map_eq_some_iff.mp hx
      obtain ⟨hp1, hp2, hp3⟩ := hB p (List.mem_of_getElem? hp)
      have e1A := e1.trans eA
      walk_at "rs"
      refine ⟨rfl, ?_⟩
      walk_at "rs"
      refine c_iT (.inl (.inl (e1A _ _ hp1))) ?_
      refine c_lc walk_tup (fun i acc => acc = (((p.2.take i).filter fun x => !decide (x ∈ ns)).map V.str)) (σ0 := [some (.ref pp), some (.ref pn), some (.ref D), none, some (.ref p.1), none]) rfl (by rw [List.length_map]; omega) rfl (fun H' e' => .inl (.inl (e' _ _ (e1A _ _ hp1)))) ?_ ?_
      · rintro j acc x HC HD R1 R0 hj rfl eC ⟨hCD, hx⟩ j1 j0
        subst hCD
        rw [List.getElem?_map] at hx
        obtain ⟨x', hx', rfl⟩ := Option.map_eq_some_iff.mp hx
        have ks : (((p.2.take (j + 1)).filter fun x => !decide (x ∈ ns)).map V.str) = (((p.2.take j).filter fun x => !decide (x ∈ ns)).map V.str) ++ ([x'].filter fun x => !decide (x ∈ ns)).map V.str := by
          rw [take_snoc hx', List.filter_append, List.map_append]
        walk_at "rs"
        refine ⟨rfl, ?_⟩
        walk_at "rs"
        refine g_ni_l (.inl (sq_l (eC _ _ (e1A _ _ hpn)))) (by simp [flatV]) (by simp [flatV]) ?_
        rw [inV_strs]
        refine ⟨_, rfl, ?_⟩
        refine c_nd (fun km => ?_) (fun km => ?_)
        · walk_at "rs"
          refine j1 _ _ (Ex.refl _) ?_
          rw [ks]; simp [km]
        · refine j0 _ (Ex.refl _) ?_
          rw [ks]; simp [km]
      · rintro D2 HD xs hD2 eD rfl _ hD2'
        rw [List.length_map, List.take_of_length_le (Nat.le_refl _)] at hD2'
        walk_at "rs"
        refine c_lstE (by simp) (fun pf HE nE eE hE => ?_)
        refine g_eq_e (sq_l (eE _ _ hD2')) (sq_l hE) (ok_names fun x hx => hp3 x (List.mem_filter.mp hx).1) ?_
        refine ⟨_, rfl, ?_⟩
        refine c_d (fun ka => ?_) (fun ka => ?_)
        · have hall : (p.2.all fun x => decide (x ∈ ns)) = true := by
            rw [List.all_eq_true]
            intro x hx
            have := List.map_eq_nil_iff.mp ka
            rw [List.filter_eq_nil_iff] at this
            simpa using this x hx
          walk_at "rs"
          refine k1 _ _ (eD.trans eE) ⟨cs ++ [p], by rw [List.map_append]; rfl, ?_, ?_⟩
          · intro y hy
            rcases List.mem_append.mp hy with k | k
            · exact hC y k
            · rw [List.mem_singleton.mp k]; exact ⟨hp1, hp2, hp3⟩
          · rw [take_snoc hp, List.any_append, ← hCN]; simp [hall]
        · have hall : (p.2.all fun x => decide (x ∈ ns)) = false := by
            rw [← Bool.not_eq_true]
            intro k
            refine ka (List.map_eq_nil_iff.mpr ?_)
            rw [List.filter_eq_nil_iff]
            intro x hx
            simpa using List.all_eq_true.mp k x hx
          refine k0 _ (eD.trans eE) ⟨cs, rfl, hC, ?_⟩
          rw [take_snoc hp, List.any_append, ← hCN]; simp [hall]
    · rintro D2 H2 xs hD2 e2 ⟨cs, rfl, hC, hCN⟩ _ h2
      rw [List.length_map, List.take_of_length_le (Nat.le_refl _), ← hN] at hCN
      walk_at "rd"
      refine c_lstE (by simp) (fun pf H3 n3 e3 h3 => ?_)
      have e13 := e1.trans (e2.trans e3)
      refine g_ne_bs (hC.ex e13) (sq_l (e3 _ _ h2)) (sq_l h3) ?_
      rw [hCN]
      exact q _ e13

end
end K11

set_option maxHeartbeats 800000
namespace K11
open PySem PySem.Spec PyProof.Rows L2 Evl Gx
local macro_rules | `(tactic| walk_at "get") => `(tactic| first
  | assumption
  | exact upd_same
  | ((with_reducible refine sq_l ?_); walk_at "get")
  | ((with_reducible refine sq_t ?_); walk_at "get")
  | ((with_reducible refine ex_l (by assumption) ?_); walk_at "get")
  | ((with_reducible refine ex_t (by assumption) ?_); walk_at "get")
  | ((with_reducible refine Draw.ex (by assumption) ?_); walk_at "get")
  | ((with_reducible refine Arg.ex (by assumption) ?_); walk_at "get")
  | ((with_reducible refine IsRule.ex (by assumption) ?_); walk_at "get")
  | ((with_reducible refine Thing.ex (by assumption) ?_); walk_at "get")
  | ((with_reducible refine exget (by assumption) ?_); walk_at "get"))
local macro_rules | `(tactic| walk_at "rd1") => `(tactic| first
  | (with_reducible refine c_seq ?_)
  | (with_reducible refine c_next ?_)
  | (with_reducible refine c_drop ?_)
  | (with_reducible refine c_ret ?_)
  | (with_reducible refine c_retN ?_)
  | (with_reducible refine c_ifs ?_)
  | (with_reducible refine c_c ?_)
  | (with_reducible refine c_op ?_)
  | (with_reducible refine c_un ?_)
  | (with_reducible refine c_cb ?_)
  | (with_reducible refine c_nil ?_)
  | (with_reducible refine c_cons ?_)
  | (with_reducible refine c_call ?_)
  | (with_reducible refine c_callK ?_)
  | (with_reducible refine c_test ?_)
  | (with_reducible refine c_tB ?_)
  | (with_reducible refine c_and ?_)
  | (with_reducible refine c_or ?_)
  | (with_reducible refine c_not ?_)
  | (with_reducible refine c_andV ?_)
  | (with_reducible refine c_orV ?_)
  | (with_reducible refine c_notV ?_)
  | (with_reducible refine c_if ?_)
  | (with_reducible refine c_chain ?_)
  | (with_reducible refine c_sl ?_)
  | (with_reducible refine c_nop ?_)
  | (with_reducible refine c_part ?_)
  | (with_reducible refine c_lst ?_)
  | (with_reducible refine c_tup ?_)
  | (with_reducible refine c_bl ?_)
  | (with_reducible refine c_blP ?_)
  | (with_reducible refine c_parti ?_)
  | (with_reducible refine c_t ?_)
  | (with_reducible refine c_f ?_)
  | (with_reducible refine g_add_i ?_)
  | (with_reducible refine g_sub_i ?_)
  | (with_reducible refine g_neg ?_)
  | (with_reducible refine g_eq_i ?_)
  | (with_reducible refine g_eq_st ?_)
  | (with_reducible refine g_eq_b ?_)
  | (with_reducible refine g_ne_i ?_)
  | (with_reducible refine g_ne_st ?_)
  | (with_reducible refine g_ne_b ?_)
  | (with_reducible refine g_lt_i ?_)
  | (with_reducible refine g_le_i ?_)
  | (with_reducible refine g_gt_i ?_)
  | (with_reducible refine g_ge_i ?_)
  | (with_reducible refine g_le_s ?_)
  | (with_reducible refine g_in_s ?_)
  | (with_reducible refine g_ni_s ?_)
  | (with_reducible refine c_brk ?_)
  | (with_reducible refine c_cont ?_)
  | (with_reducible refine c_for ?_)
  | (with_reducible refine c_lcW ?_)
  | (with_reducible refine c_iList ?_)
  | (with_reducible refine c_iTup ?_)
  | (with_reducible refine c_iStr ?_)
  | (with_reducible refine c_iRng1 ?_)
  | (with_reducible refine c_iS ?_)
  | (with_reducible refine c_yes ?_)
  | (with_reducible refine c_sub ?_)
  | (with_reducible refine c_pair ?_)
  | (with_reducible refine c_pnil ?_)
  | (with_reducible refine c_isn ?_)
  | (with_reducible refine c_notn ?_)
  | (with_reducible refine c_sfld ?_)
  | (with_reducible refine c_fld ?_)
  | (with_reducible refine c_raise ?_)
  | (with_reducible refine c_meth0 ?_)
  | (with_reducible refine c_iEnum ?_)
  | (with_reducible refine c_bm ?_)
  | (with_reducible refine c_bm0 ?_)
  | (with_reducible refine c_mk ?_)
  | (with_reducible refine c_try ?_)
  | (with_reducible refine c_iEnumT ?_)
  | (with_reducible refine c_callKS ?_)
  | (with_reducible refine c_tryO ?_)
  | (with_reducible refine c_repl ?_)
  | (with_reducible refine c_fmt ?_)
  | (with_reducible refine c_fs ?_)
  | (with_reducible refine c_jn ?_)
  | (with_reducible refine c_jc ?_)
  | (with_reducible refine c_tru ?_)
  | (with_reducible refine c_m1 ?_)
  | (with_reducible refine c_dget ?_)
  | (with_reducible refine c_din ?_)
  | (with_reducible refine c_dni ?_)
  | (with_reducible refine c_dput ?_)
  | (with_reducible refine c_star ?_)
  | (with_reducible refine c_while ?_)
  | (with_reducible refine c_dcW ?_)
  | (with_reducible refine c_var0 ?_)
  | (with_reducible refine c_asg0 ?_)
  | (with_reducible refine c_nam0 ?_)
  | (with_reducible refine c_var1 ?_)
  | (with_reducible refine c_asg1 ?_)
  | (with_reducible refine c_nam1 ?_)
  | (with_reducible refine c_var2 ?_)
  | (with_reducible refine c_asg2 ?_)
  | (with_reducible refine c_nam2 ?_)
  | (with_reducible refine c_var3 ?_)
  | (with_reducible refine c_asg3 ?_)
  | (with_reducible refine c_nam3 ?_)
  | (with_reducible refine c_var4 ?_)
  | (with_reducible refine c_asg4 ?_)
  | (with_reducible refine c_nam4 ?_)
  | (with_reducible refine c_var5 ?_)
  | (with_reducible refine c_asg5 ?_)
  | (with_reducible refine c_nam5 ?_)
  | (with_reducible refine c_var6 ?_)
  | (with_reducible refine c_asg6 ?_)
  | (with_reducible refine c_nam6 ?_)
  | (with_reducible refine c_var7 ?_)
  | (with_reducible refine c_asg7 ?_)
  | (with_reducible refine c_nam7 ?_)
  | (with_reducible refine c_var8 ?_)
  | (with_reducible refine c_asg8 ?_)
  | (with_reducible refine c_nam8 ?_)
  | (with_reducible refine c_var9 ?_)
  | (with_reducible refine c_asg9 ?_)
  | (with_reducible refine c_nam9 ?_)
  | (with_reducible refine c_var10 ?_)
  | (with_reducible refine c_asg10 ?_)
  | (with_reducible refine c_nam10 ?_)
  | (with_reducible refine c_var11 ?_)
  | (with_reducible refine c_asg11 ?_)
  | (with_reducible refine c_nam11 ?_)
  | (with_reducible refine c_var12 ?_)
  | (with_reducible refine c_asg12 ?_)
  | (with_reducible refine c_nam12 ?_)
  | (with_reducible refine c_var13 ?_)
  | (with_reducible refine c_asg13 ?_)
  | (with_reducible refine c_nam13 ?_)
  | (with_reducible refine c_var14 ?_)
  | (with_reducible refine c_asg14 ?_)
  | (with_reducible refine c_nam14 ?_)
  | (with_reducible refine c_var15 ?_)
  | (with_reducible refine c_asg15 ?_)
  | (with_reducible refine c_nam15 ?_)
  | (with_reducible refine c_asgG ?_)
  | ((with_reducible refine g_ix_l (xs := ?gxa) (v := ?gxb) ?gx1 ?gx2 ?gx3); (case gx1 => walk_at "get"); (case gx2 => rfl))
  | ((with_reducible refine g_len_l (xs := ?gxa) (.inl ?gx1) ?gx3); (case gx1 => walk_at "get"))
  | ((with_reducible refine g_mod_i ?gx1 ?gx3); (case gx1 => omega)))
local macro_rules | `(tactic| walk_at "rd") => `(tactic| repeat walk_at "rd1")
local macro_rules | `(tactic| walk_at "rs1") => `(tactic| first
  | (with_reducible refine c_next ?_)
  | (with_reducible refine c_drop ?_)
  | (with_reducible refine c_ret ?_)
  | (with_reducible refine c_retN ?_)
  | (with_reducible refine c_ifs ?_)
  | (with_reducible refine c_c ?_)
  | (with_reducible refine c_op ?_)
  | (with_reducible refine c_un ?_)
  | (with_reducible refine c_cb ?_)
  | (with_reducible refine c_nil ?_)
  | (with_reducible refine c_cons ?_)
  | (with_reducible refine c_call ?_)
  | (with_reducible refine c_callK ?_)
  | (with_reducible refine c_test ?_)
  | (with_reducible refine c_tB ?_)
  | (with_reducible refine c_and ?_)
  | (with_reducible refine c_or ?_)
  | (with_reducible refine c_not ?_)
  | (with_reducible refine c_andV ?_)
  | (with_reducible refine c_orV ?_)
  | (with_reducible refine c_notV ?_)
  | (with_reducible refine c_chain ?_)
  | (with_reducible refine c_sl ?_)
  | (with_reducible refine c_nop ?_)
  | (with_reducible refine c_part ?_)
  | (with_reducible refine c_lst ?_)
  | (with_reducible refine c_tup ?_)
  | (with_reducible refine c_bl ?_)
  | (with_reducible refine c_blP ?_)
  | (with_reducible refine c_parti ?_)
  | (with_reducible refine c_t ?_)
  | (with_reducible refine c_f ?_)
  | (with_reducible refine g_add_i ?_)
  | (with_reducible refine g_sub_i ?_)
  | (with_reducible refine g_neg ?_)
  | (with_reducible refine g_eq_i ?_)
  | (with_reducible refine g_eq_st ?_)
  | (with_reducible refine g_eq_b ?_)
  | (with_reducible refine g_ne_i ?_)
  | (with_reducible refine g_ne_st ?_)
  | (with_reducible refine g_ne_b ?_)
  | (with_reducible refine g_lt_i ?_)
  | (with_reducible refine g_le_i ?_)
  | (with_reducible refine g_gt_i ?_)
  | (with_reducible refine g_ge_i ?_)
  | (with_reducible refine g_le_s ?_)
  | (with_reducible refine g_in_s ?_)
  | (with_reducible refine g_ni_s ?_)
  | (with_reducible refine c_brk ?_)
  | (with_reducible refine c_cont ?_)
  | (with_reducible refine c_for ?_)
  | (with_reducible refine c_lcW ?_)
  | (with_reducible refine c_iList ?_)
  | (with_reducible refine c_iTup ?_)
  | (with_reducible refine c_iStr ?_)
  | (with_reducible refine c_iRng1 ?_)
  | (with_reducible refine c_iS ?_)
  | (with_reducible refine c_yes ?_)
  | (with_reducible refine c_sub ?_)
  | (with_reducible refine c_pair ?_)
  | (with_reducible refine c_pnil ?_)
  | (with_reducible refine c_isn ?_)
  | (with_reducible refine c_notn ?_)
  | (with_reducible refine c_sfld ?_)
  | (with_reducible refine c_fld ?_)
  | (with_reducible refine c_raise ?_)
  | (with_reducible refine c_meth0 ?_)
  | (with_reducible refine c_iEnum ?_)
  | (with_reducible refine c_bm ?_)
  | (with_reducible refine c_bm0 ?_)
  | (with_reducible refine c_mk ?_)
  | (with_reducible refine c_try ?_)
  | (with_reducible refine c_iEnumT ?_)
  | (with_reducible refine c_callKS ?_)
  | (with_reducible refine c_tryO ?_)
  | (with_reducible refine c_repl ?_)
  | (with_reducible refine c_fmt ?_)
  | (with_reducible refine c_fs ?_)
  | (with_reducible refine c_jn ?_)
  | (with_reducible refine c_jc ?_)
  | (with_reducible refine c_tru ?_)
  | (with_reducible refine c_m1 ?_)
  | (with_reducible refine c_dget ?_)
  | (with_reducible refine c_din ?_)
  | (with_reducible refine c_dni ?_)
  | (with_reducible refine c_dput ?_)
  | (with_reducible refine c_star ?_)
  | (with_reducible refine c_while ?_)
  | (with_reducible refine c_dcW ?_)
  | (with_reducible refine c_var0 ?_)
  | (with_reducible refine c_asg0 ?_)
  | (with_reducible refine c_nam0 ?_)
  | (with_reducible refine c_var1 ?_)
  | (with_reducible refine c_asg1 ?_)
  | (with_reducible refine c_nam1 ?_)
  | (with_reducible refine c_var2 ?_)
  | (with_reducible refine c_asg2 ?_)
  | (with_reducible refine c_nam2 ?_)
  | (with_reducible refine c_var3 ?_)
  | (with_reducible refine c_asg3 ?_)
  | (with_reducible refine c_nam3 ?_)
  | (with_reducible refine c_var4 ?_)
  | (with_reducible refine c_asg4 ?_)
  | (with_reducible refine c_nam4 ?_)
  | (with_reducible refine c_var5 ?_)
  | (with_reducible refine c_asg5 ?_)
  | (with_reducible refine c_nam5 ?_)
  | (with_reducible refine c_var6 ?_)
  | (with_reducible refine c_asg6 ?_)
  | (with_reducible refine c_nam6 ?_)
  | (with_reducible refine c_var7 ?_)
  | (with_reducible refine c_asg7 ?_)
  | (with_reducible refine c_nam7 ?_)
  | (with_reducible refine c_var8 ?_)
  | (with_reducible refine c_asg8 ?_)
  | (with_reducible refine c_nam8 ?_)
  | (with_reducible refine c_var9 ?_)
  | (with_reducible refine c_asg9 ?_)
  | (with_reducible refine c_nam9 ?_)
  | (with_reducible refine c_var10 ?_)
  | (with_reducible refine c_asg10 ?_)
  | (with_reducible refine c_nam10 ?_)
  | (with_reducible refine c_var11 ?_)
  | (with_reducible refine c_asg11 ?_)
  | (with_reducible refine c_nam11 ?_)
  | (with_reducible refine c_var12 ?_)
  | (with_reducible refine c_asg12 ?_)
  | (with_reducible refine c_nam12 ?_)
  | (with_reducible refine c_var13 ?_)
  | (with_reducible refine c_asg13 ?_)
  | (with_reducible refine c_nam13 ?_)
  | (with_reducible refine c_var14 ?_)
  | (with_reducible refine c_asg14 ?_)
  | (with_reducible refine c_nam14 ?_)
  | (with_reducible refine c_var15 ?_)
  | (with_reducible refine c_asg15 ?_)
  | (with_reducible refine c_nam15 ?_)
  | (with_reducible refine c_asgG ?_)
  | ((with_reducible refine g_ix_l (xs := ?gxa) (v := ?gxb) ?gx1 ?gx2 ?gx3); (case gx1 => walk_at "get"); (case gx2 => rfl))
  | ((with_reducible refine g_len_l (xs := ?gxa) (.inl ?gx1) ?gx3); (case gx1 => walk_at "get"))
  | ((with_reducible refine g_mod_i ?gx1 ?gx3); (case gx1 => omega)))
local macro_rules | `(tactic| walk_at "rs") => `(tactic| repeat walk_at "rs1")
section
variable {P : Program} {w : World} {K : PySem.W.Frag} {mg : Str → Option Value} {base : Heap} {Z : Ads}
theorem c_iRng2 {σ : L2.St} {H : Hp} {ta : TA} {R : It → Hp → Prop} (h : ta σ H fun vs H1 => ∃ i j : Int, vs = [.int i, .int j] ∧ (-(2 ^ 62) ≤ i ∧ i < 2 ^ 62 ∧ -(2 ^ 62) ≤ j ∧ j < 2 ^ 62) ∧ R (Itr i (j - i).toNat) H1) : iRng2 ta σ H R := h
def AllP (ss : List Str) (H : Hp) (ts : List Addr) : Prop := ∀ t ∈ ts, ∃ r : PR, PairAt H t r ∧ ∀ z ∈ headsOf r.1 ++ r.2, z ∈ ss
theorem AllP.keep {ss : List Str} {H H' : Hp} {ts : List Addr} (k : ∀ x xs, H x = some (.tup xs) → H' x = some (.tup xs)) (h : AllP ss H ts) : AllP ss H' ts := fun t ht => by
  obtain ⟨r, h1, h2⟩ := h t ht
  exact ⟨r, h1.keep k, h2⟩
theorem AllP.ps {ss : List Str} {H : Hp} : ∀ {ts : List Addr}, AllP ss H ts → ∃ rs, PsAt H ts rs ∧ ∀ z ∈ Gx.namesOf rs, z ∈ ss
  | [], _ => ⟨[], trivial, by simp [Gx.namesOf]⟩
  | t :: ts, h => by
    obtain ⟨r, h1, h2⟩ := h t (.head _)
    obtain ⟨rs, h3, h4⟩ := AllP.ps (ts := ts) fun t ht => h t (.tail _ ht)
    refine ⟨r :: rs, ⟨h1, h3⟩, fun z hz => ?_⟩
    unfold Gx.namesOf at hz
    rw [List.flatMap_cons] at hz
    rcases List.mem_append.mp hz with k | k
    · exact h2 z k
    · exact h4 z k
theorem ps_all {W : List Str} {H : Hp} : ∀ {ts : List Addr} {rs : List PR}, PsAt H ts rs → (∀ z ∈ Gx.namesOf rs, z ∈ W) → AllP W H ts
  | [], [], _, _ => fun t ht => by cases ht
  | t :: ts, r :: rs, ⟨h1, h⟩, hn => fun t' ht => by
    rcases List.mem_cons.mp ht with rfl | k
    · exact ⟨r, h1, fun z hz => hn z (by unfold Gx.namesOf; rw [List.flatMap_cons]; exact List.mem_append.mpr (.inl hz))⟩
    · exact ps_all h (fun z hz => hn z (by unfold Gx.namesOf at hz ⊢; rw [List.flatMap_cons]; exact List.mem_append.mpr (.inr hz))) t' k
  | [], _ :: _, h, _ => h.elim
  | _ :: _, [], h, _ => h.elim
theorem cut_refs (ts : List Addr) (n : Nat) : ∃ us : List Addr, cutV (ts.map V.ref) none (some (n : Int)) = us.map V.ref ∧ us.length ≤ n ∧ ∀ t ∈ us, t ∈ ts := by
  refine ⟨(ts.drop 0).take (min n ts.length - 0), ?_, ?_, fun t ht => List.mem_of_mem_drop (List.mem_of_mem_take ht)⟩
  · unfold cutV
    rw [HT.sIx_none, HT.sIx_nat, List.length_map, List.map_take, List.map_drop]
  · rw [List.length_take]; omega
theorem rd__law_turned {vs : List V} {H : Hp} {Q : VK} {E : XK} (h : sp__law_turned P w K vs H Q E) : t__law_turned P w K Z { nx := fun _ H' => Q .non H', rt := Q } (start ["state", "pairs", "left", "k"] vs) H := by
  obtain ⟨st, pp, ts, rs, W, rfl, hS, hpp, hP, hl, hW, q⟩ := h
  show t__law_turned P w K Z _ [some (.ref st), some (.ref pp), none, none] H
  unfold t__law_turned
  have hlt := PsAt.len hP
  walk_at "rd"
  refine c_tak hS (by omega) (by omega) (fun n1 H1 a0 a1 e1 => ?_)
  obtain ⟨m, rfl⟩ : ∃ m : Nat, n1 = m := ⟨n1.toNat, by omega⟩
  walk_at "rd"
  refine g_sl_l (sq_l (e1 _ _ hpp)) (fun pu H2 n2 e2 h2 => ?_)
  obtain ⟨us, hus, hul, hum⟩ := cut_refs ts m
  rw [hus] at h2
  have e12 := e1.trans e2
  refine g_add_l (e12 _ _ hpp) h2 (by rw [List.length_map, List.length_map]; omega) (fun pl H3 n3 e3 h3 => ?_)
  rw [← List.map_append] at h3
  have e13 := e12.trans e3
  have nlH2 : H2 pl = none := n3
  have hA : AllP W H3 (ts ++ us) := AllP.keep (H := H) (fun _ _ h => e13 _ _ h) fun t ht => by
    rcases List.mem_append.mp ht with k | k
    · exact ps_all hP hW t k
    · exact ps_all hP hW t (hum t k)
  have hlen3 : (ts ++ us).length ≤ 40 := by rw [List.length_append]; omega
  generalize ts ++ us = ls at h3 hA hlen3
  walk_at "rd"
  refine c_iR1 (by rw [List.length_map]; omega) (by rw [List.length_map]; omega) ?_
  rw [show ((((ls.map V.ref).length : Nat) : Int)).toNat = ls.length by rw [List.length_map]; omega]
  refine lc_inv walk_range (fun D i acc H' => D ≠ pl ∧ Ex H2 H' ∧ ∃ xs ys : List Addr, acc = ys.map V.ref ∧ ys.length = i ∧ ys.length + xs.length = ls.length ∧ H' pl = some (.lst (xs.map V.ref)) ∧ AllP W H' xs ∧ AllP W H' ys) (σ0 := [some (.ref st), some (.ref pp), some (.ref pl), none]) rfl (by omega) ?_ (fun _ _ _ _ _ => trivial) ?_ ?_
  · intro D hD
    exact ⟨fun k => (by rw [k, h3] at hD; cases hD), e3.trans (Ex.new hD), ls, [], rfl, rfl, by simp, by rw [keepD hD h3]; exact h3, hA.keep fun x xs h => by rw [keepD hD h]; exact h, fun t ht => by cases ht⟩
  · rintro D i acc x H4a H4 Q1 Q0 hD hi ⟨hne, e4, xs, ys, rfl, hyl, hsum, h4, hAx, hAy⟩ hacc _ ⟨rfl, rfl⟩ k1 _
    walk_at "rd"
    refine ⟨rfl, ?_⟩
    walk_at "rd"
    refine ⟨ty_l h4, ?_⟩
    walk_at "rd"
    refine c_tak (hS.ex (e12.trans e4)) (by rw [List.length_map]; omega) (by rw [List.length_map]; omega) (fun n3 H5 c0 c1 e5 => ?_)
    rw [List.length_map] at c1
    obtain ⟨k, z, rfl, hk, hz, _⟩ := atI_in c0 c1
    walk_at "rd"
    refine g_popAt (e5 _ _ h4) rfl (y := .ref z) (by rw [List.getElem?_map, hk]; rfl) (by rw [List.length_map]; omega) (fun H6 e6 h6 => ?_)
    have hD6 := e6 _ _ hne (e5 _ _ hacc)
    have kp : ∀ x xs, H4 x = some (.tup xs) → upd H6 D (.lst (ys.map V.ref ++ [.ref z])) x = some (.tup xs) := fun x xs h => updT hD6 _ _ (e6 _ _ (fun q => by rw [q, h4] at h; cases h) (e5 _ _ h))
    refine k1 _ _ hD6 ⟨hne, fun x o ho => ?_, xs.eraseIdx k, ys ++ [z], by rw [List.map_append]; rfl, by rw [List.length_append, hyl]; rfl, ?_, ?_, ?_, ?_⟩
    · have hDx : x ≠ D := fun q => by
        have : H3 x = some o := e3 _ _ ho
        rw [q, hD] at this; cases this
      rw [upd_ne hDx]
      exact e6 _ _ (fun q => by rw [q, nlH2] at ho; cases ho) (e5 _ _ (e4 _ _ ho))
    · have hkl : k < xs.length := (List.getElem?_eq_some_iff.mp hk).1
      rw [List.length_append, List.length_eraseIdx_of_lt hkl]
      simp only [List.length_cons, List.length_nil]; omega
    · rw [upd_ne (Ne.symm hne), h6, erase_map]
    · exact AllP.keep kp fun t ht => hAx t (List.mem_of_mem_eraseIdx ht)
    · refine AllP.keep kp fun t ht => ?_
      rcases List.mem_append.mp ht with q | q
      · exact hAy t q
      · rw [List.mem_singleton.mp q]; exact hAx z hz
  · rintro D H4 xs0 hD ⟨hne, e4, xs, ys, rfl, hyl, hsum, h4, hAx, hAy⟩ _ h5
    obtain ⟨rs', hP', hN'⟩ := hAy.ps
    exact q D ys rs' H4 (e12.trans e4) h5 hP' (by rw [← hP'.len]; omega) hN'

end
end K11

set_option maxHeartbeats 800000
namespace K11
open PySem PySem.Spec PyProof.Rows L2 Evl Gx
local macro_rules | `(tactic| walk_at "get") => `(tactic| first
  | assumption
  | exact upd_same
  | ((with_reducible refine sq_l ?_); walk_at "get")
  | ((with_reducible refine sq_t ?_); walk_at "get")
  | ((with_reducible refine ex_l (by assumption) ?_); walk_at "get")
  | ((with_reducible refine ex_t (by assumption) ?_); walk_at "get")
  | ((with_reducible refine Draw.ex (by assumption) ?_); walk_at "get")
  | ((with_reducible refine Arg.ex (by assumption) ?_); walk_at "get")
  | ((with_reducible refine IsRule.ex (by assumption) ?_); walk_at "get")
  | ((with_reducible refine Thing.ex (by assumption) ?_); walk_at "get")
  | ((with_reducible refine exget (by assumption) ?_); walk_at "get"))
local macro_rules | `(tactic| walk_at "rd1") => `(tactic| first
  | (with_reducible refine c_seq ?_)
  | (with_reducible refine c_next ?_)
  | (with_reducible refine c_drop ?_)
  | (with_reducible refine c_ret ?_)
  | (with_reducible refine c_retN ?_)
  | (with_reducible refine c_ifs ?_)
  | (with_reducible refine c_c ?_)
  | (with_reducible refine c_op ?_)
  | (with_reducible refine c_un ?_)
  | (with_reducible refine c_cb ?_)
  | (with_reducible refine c_nil ?_)
  | (with_reducible refine c_cons ?_)
  | (with_reducible refine c_call ?_)
  | (with_reducible refine c_callK ?_)
  | (with_reducible refine c_test ?_)
  | (with_reducible refine c_tB ?_)
  | (with_reducible refine c_and ?_)
  | (with_reducible refine c_or ?_)
  | (with_reducible refine c_not ?_)
  | (with_reducible refine c_andV ?_)
  | (with_reducible refine c_orV ?_)
  | (with_reducible refine c_notV ?_)
  | (with_reducible refine c_if ?_)
  | (with_reducible refine c_chain ?_)
  | (with_reducible refine c_sl ?_)
  | (with_reducible refine c_nop ?_)
  | (with_reducible refine c_part ?_)
  | (with_reducible refine c_lst ?_)
  | (with_reducible refine c_tup ?_)
  | (with_reducible refine c_bl ?_)
  | (with_reducible refine c_blP ?_)
  | (with_reducible refine c_parti ?_)
  | (with_reducible refine c_t ?_)
  | (with_reducible refine c_f ?_)
  | (with_reducible refine g_add_i ?_)
  | (with_reducible refine g_sub_i ?_)
  | (with_reducible refine g_neg ?_)
  | (with_reducible refine g_eq_i ?_)
  | (with_reducible refine g_eq_st ?_)
  | (with_reducible refine g_eq_b ?_)
  | (with_reducible refine g_ne_i ?_)
  | (with_reducible refine g_ne_st ?_)
  | (with_reducible refine g_ne_b ?_)
  | (with_reducible refine g_lt_i ?_)
  | (with_reducible refine g_le_i ?_)
  | (with_reducible refine g_gt_i ?_)
  | (with_reducible refine g_ge_i ?_)
  | (with_reducible refine g_le_s ?_)
  | (with_reducible refine g_in_s ?_)
  | (with_reducible refine g_ni_s ?_)
  | (with_reducible refine c_brk ?_)
  | (with_reducible refine c_cont ?_)
  | (with_reducible refine c_for ?_)
  | (with_reducible refine c_lcW ?_)
  | (with_reducible refine c_iList ?_)
  | (with_reducible refine c_iTup ?_)
  | (with_reducible refine c_iStr ?_)
  | (with_reducible refine c_iRng1 ?_)
  | (with_reducible refine c_iS ?_)
  | (with_reducible refine c_yes ?_)
  | (with_reducible refine c_sub ?_)
  | (with_reducible refine c_pair ?_)
  | (with_reducible refine c_pnil ?_)
  | (with_reducible refine c_isn ?_)
  | (with_reducible refine c_notn ?_)
  | (with_reducible refine c_sfld ?_)
  | (with_reducible refine c_fld ?_)
  | (with_reducible refine c_raise ?_)
  | (with_reducible refine c_meth0 ?_)
  | (with_reducible refine c_iEnum ?_)
  | (with_reducible refine c_bm ?_)
  | (with_reducible refine c_bm0 ?_)
  | (with_reducible refine c_mk ?_)
  | (with_reducible refine c_try ?_)
  | (with_reducible refine c_iEnumT ?_)
  | (with_reducible refine c_callKS ?_)
  | (with_reducible refine c_tryO ?_)
  | (with_reducible refine c_repl ?_)
  | (with_reducible refine c_fmt ?_)
  | (with_reducible refine c_fs ?_)
  | (with_reducible refine c_jn ?_)
  | (with_reducible refine c_jc ?_)
  | (with_reducible refine c_tru ?_)
  | (with_reducible refine c_m1 ?_)
  | (with_reducible refine c_dget ?_)
  | (with_reducible refine c_din ?_)
  | (with_reducible refine c_dni ?_)
  | (with_reducible refine c_dput ?_)
  | (with_reducible refine c_star ?_)
  | (with_reducible refine c_while ?_)
  | (with_reducible refine c_dcW ?_)
  | (with_reducible refine c_var0 ?_)
  | (with_reducible refine c_asg0 ?_)
  | (with_reducible refine c_nam0 ?_)
  | (with_reducible refine c_var1 ?_)
  | (with_reducible refine c_asg1 ?_)
  | (with_reducible refine c_nam1 ?_)
  | (with_reducible refine c_var2 ?_)
  | (with_reducible refine c_asg2 ?_)
  | (with_reducible refine c_nam2 ?_)
  | (with_reducible refine c_var3 ?_)
  | (with_reducible refine c_asg3 ?_)
  | (with_reducible refine c_nam3 ?_)
  | (with_reducible refine c_var4 ?_)
  | (with_reducible refine c_asg4 ?_)
  | (with_reducible refine c_nam4 ?_)
  | (with_reducible refine c_var5 ?_)
  | (with_reducible refine c_asg5 ?_)
  | (with_reducible refine c_nam5 ?_)
  | (with_reducible refine c_var6 ?_)
  | (with_reducible refine c_asg6 ?_)
  | (with_reducible refine c_nam6 ?_)
  | (with_reducible refine c_var7 ?_)
  | (with_reducible refine c_asg7 ?_)
  | (with_reducible refine c_nam7 ?_)
  | (with_reducible refine c_var8 ?_)
  | (with_reducible refine c_asg8 ?_)
  | (with_reducible refine c_nam8 ?_)
  | (with_reducible refine c_var9 ?_)
  | (with_reducible refine c_asg9 ?_)
  | (with_reducible refine c_nam9 ?_)
  | (with_reducible refine c_var10 ?_)
  | (with_reducible refine c_asg10 ?_)
  | (with_reducible refine c_nam10 ?_)
  | (with_reducible refine c_var11 ?_)
  | (with_reducible refine c_asg11 ?_)
  | (with_reducible refine c_nam11 ?_)
  | (with_reducible refine c_var12 ?_)
  | (with_reducible refine c_asg12 ?_)
  | (with_reducible refine c_nam12 ?_)
  | (with_reducible refine c_var13 ?_)
  | (with_reducible refine c_asg13 ?_)
  | (with_reducible refine c_nam13 ?_)
  | (with_reducible refine c_var14 ?_)
  | (with_reducible refine c_asg14 ?_)
  | (with_reducible refine c_nam14 ?_)
  | (with_reducible refine c_var15 ?_)
  | (with_reducible refine c_asg15 ?_)
  | (with_reducible refine c_nam15 ?_)
  | (with_reducible refine c_asgG ?_)
  | ((with_reducible refine g_ix_l (xs := ?gxa) (v := ?gxb) ?gx1 ?gx2 ?gx3); (case gx1 => walk_at "get"); (case gx2 => rfl))
  | ((with_reducible refine g_len_l (xs := ?gxa) (.inl ?gx1) ?gx3); (case gx1 => walk_at "get"))
  | ((with_reducible refine g_mod_i ?gx1 ?gx3); (case gx1 => omega)))
local macro_rules | `(tactic| walk_at "rd") => `(tactic| repeat walk_at "rd1")
local macro_rules | `(tactic| walk_at "rs1") => `(tactic| first
  | (with_reducible refine c_next ?_)
  | (with_reducible refine c_drop ?_)
  | (with_reducible refine c_ret ?_)
  | (with_reducible refine c_retN ?_)
  | (with_reducible refine c_ifs ?_)
  | (with_reducible refine c_c ?_)
  | (with_reducible refine c_op ?_)
  | (with_reducible refine c_un ?_)
  | (with_reducible refine c_cb ?_)
  | (with_reducible refine c_nil ?_)
  | (with_reducible refine c_cons ?_)
  | (with_reducible refine c_call ?_)
  | (with_reducible refine c_callK ?_)
  | (with_reducible refine c_test ?_)
  | (with_reducible refine c_tB ?_)
  | (with_reducible refine c_and ?_)
  | (with_reducible refine c_or ?_)
  | (with_reducible refine c_not ?_)
  | (with_reducible refine c_andV ?_)
  | (with_reducible refine c_orV ?_)
  | (with_reducible refine c_notV ?_)
  | (with_reducible refine c_chain ?_)
  | (with_reducible refine c_sl ?_)
  | (with_reducible refine c_nop ?_)
  | (with_reducible refine c_part ?_)
  | (with_reducible refine c_lst ?_)
  | (with_reducible refine c_tup ?_)
  | (with_reducible refine c_bl ?_)
  | (with_reducible refine c_blP ?_)
  | (with_reducible refine c_parti ?_)
  | (with_reducible refine c_t ?_)
  | (with_reducible refine c_f ?_)
  | (with_reducible refine g_add_i ?_)
  | (with_reducible refine g_sub_i ?_)
  | (with_reducible refine g_neg ?_)
  | (with_reducible refine g_eq_i ?_)
  | (with_reducible refine g_eq_st ?_)
  | (with_reducible refine g_eq_b ?_)
  | (with_reducible refine g_ne_i ?_)
  | (with_reducible refine g_ne_st ?_)
  | (with_reducible refine g_ne_b ?_)
  | (with_reducible refine g_lt_i ?_)
  | (with_reducible refine g_le_i ?_)
  | (with_reducible refine g_gt_i ?_)
  | (with_reducible refine g_ge_i ?_)
  | (with_reducible refine g_le_s ?_)
  | (with_reducible refine g_in_s ?_)
  | (with_reducible refine g_ni_s ?_)
  | (with_reducible refine c_brk ?_)
  | (with_reducible refine c_cont ?_)
  | (with_reducible refine c_for ?_)
  | (with_reducible refine c_lcW ?_)
  | (with_reducible refine c_iList ?_)
  | (with_reducible refine c_iTup ?_)
  | (with_reducible refine c_iStr ?_)
  | (with_reducible refine c_iRng1 ?_)
  | (with_reducible refine c_iS ?_)
  | (with_reducible refine c_yes ?_)
  | (with_reducible refine c_sub ?_)
  | (with_reducible refine c_pair ?_)
  | (with_reducible refine c_pnil ?_)
  | (with_reducible refine c_isn ?_)
  | (with_reducible refine c_notn ?_)
  | (with_reducible refine c_sfld ?_)
  | (with_reducible refine c_fld ?_)
  | (with_reducible refine c_raise ?_)
  | (with_reducible refine c_meth0 ?_)
  | (with_reducible refine c_iEnum ?_)
  | (with_reducible refine c_bm ?_)
  | (with_reducible refine c_bm0 ?_)
  | (with_reducible refine c_mk ?_)
  | (with_reducible refine c_try ?_)
  | (with_reducible refine c_iEnumT ?_)
  | (with_reducible refine c_callKS ?_)
  | (with_reducible refine c_tryO ?_)
  | (with_reducible refine c_repl ?_)
  | (with_reducible refine c_fmt ?_)
  | (with_reducible refine c_fs ?_)
  | (with_reducible refine c_jn ?_)
  | (with_reducible refine c_jc ?_)
  | (with_reducible refine c_tru ?_)
  | (with_reducible refine c_m1 ?_)
  | (with_reducible refine c_dget ?_)
  | (with_reducible refine c_din ?_)
  | (with_reducible refine c_dni ?_)
  | (with_reducible refine c_dput ?_)
  | (with_reducible refine c_star ?_)
  | (with_reducible refine c_while ?_)
  | (with_reducible refine c_dcW ?_)
  | (with_reducible refine c_var0 ?_)
  | (with_reducible refine c_asg0 ?_)
  | (with_reducible refine c_nam0 ?_)
  | (with_reducible refine c_var1 ?_)
  | (with_reducible refine c_asg1 ?_)
  | (with_reducible refine c_nam1 ?_)
  | (with_reducible refine c_var2 ?_)
  | (with_reducible refine c_asg2 ?_)
  | (with_reducible refine c_nam2 ?_)
  | (with_reducible refine c_var3 ?_)
  | (with_reducible refine c_asg3 ?_)
  | (with_reducible refine c_nam3 ?_)
  | (with_reducible refine c_var4 ?_)
  | (with_reducible refine c_asg4 ?_)
  | (with_reducible refine c_nam4 ?_)
  | (with_reducible refine c_var5 ?_)
  | (with_reducible refine c_asg5 ?_)
  | (with_reducible refine c_nam5 ?_)
  | (with_reducible refine c_var6 ?_)
  | (with_reducible refine c_asg6 ?_)
  | (with_reducible refine c_nam6 ?_)
  | (with_reducible refine c_var7 ?_)
  | (with_reducible refine c_asg7 ?_)
  | (with_reducible refine c_nam7 ?_)
  | (with_reducible refine c_var8 ?_)
  | (with_reducible refine c_asg8 ?_)
  | (with_reducible refine c_nam8 ?_)
  | (with_reducible refine c_var9 ?_)
  | (with_reducible refine c_asg9 ?_)
  | (with_reducible refine c_nam9 ?_)
  | (with_reducible refine c_var10 ?_)
  | (with_reducible refine c_asg10 ?_)
  | (with_reducible refine c_nam10 ?_)
  | (with_reducible refine c_var11 ?_)
  | (with_reducible refine c_asg11 ?_)
  | (with_reducible refine c_nam11 ?_)
  | (with_reducible refine c_var12 ?_)
  | (with_reducible refine c_asg12 ?_)
  | (with_reducible refine c_nam12 ?_)
  | (with_reducible refine c_var13 ?_)
  | (with_reducible refine c_asg13 ?_)
  | (with_reducible refine c_nam13 ?_)
  | (with_reducible refine c_var14 ?_)
  | (with_reducible refine c_asg14 ?_)
  | (with_reducible refine c_nam14 ?_)
  | (with_reducible refine c_var15 ?_)
  | (with_reducible refine c_asg15 ?_)
  | (with_reducible refine c_nam15 ?_)
  | (with_reducible refine c_asgG ?_)
  | ((with_reducible refine g_ix_l (xs := ?gxa) (v := ?gxb) ?gx1 ?gx2 ?gx3); (case gx1 => walk_at "get"); (case gx2 => rfl))
  | ((with_reducible refine g_len_l (xs := ?gxa) (.inl ?gx1) ?gx3); (case gx1 => walk_at "get"))
  | ((with_reducible refine g_mod_i ?gx1 ?gx3); (case gx1 => omega)))
local macro_rules | `(tactic| walk_at "rs") => `(tactic| repeat walk_at "rs1")
section
variable {P : Program} {w : World} {K : PySem.W.Frag} {mg : Str → Option Value} {base : Heap} {Z : Ads}
def ToldAt (K : PySem.W.Frag) (H : Hp) : List Addr → List PR → Prop
  | [], [] => True
  | u :: us, r :: rs => (∃ pb pu, H u = some (.tup [.str "rule", r.1, .ref pb, .ref pu]) ∧ SqT K H pb (r.2.map V.str) ∧ SqT K H pu [] ∧ goodR r.1 (some (r.2.map V.str)) (some []) = true) ∧ ToldAt K H us rs
  | _, _ => False
theorem ToldAt.exl {H H' : Hp} (e : Exl H H') : ∀ {us : List Addr} {rs : List PR}, ToldAt K H us rs → ToldAt K H' us rs
  | [], [], _ => trivial
  | _ :: _, _ :: _, ⟨⟨pb, pu, h1, h2, h3, h4⟩, h⟩ => ⟨⟨pb, pu, e _ _ h1 rfl, exl_t e h2, exl_t e h3, h4⟩, ToldAt.exl e h⟩
  | [], _ :: _, h => h.elim
  | _ :: _, [], h => h.elim
theorem ToldAt.snoc {H : Hp} {u : Addr} {r : PR} (h2 : ∃ pb pu, H u = some (.tup [.str "rule", r.1, .ref pb, .ref pu]) ∧ SqT K H pb (r.2.map V.str) ∧ SqT K H pu [] ∧ goodR r.1 (some (r.2.map V.str)) (some []) = true) : ∀ {us : List Addr} {rs : List PR}, ToldAt K H us rs → ToldAt K H (us ++ [u]) (rs ++ [r])
  | [], [], _ => ⟨h2, trivial⟩
  | _ :: _, _ :: _, ⟨h1, h⟩ => ⟨h1, ToldAt.snoc h2 h⟩
  | [], _ :: _, h => h.elim
  | _ :: _, [], h => h.elim
def dT (r : PR) : PyData := .tuple [.str "rule", dV r.1, .tuple ((r.2.map V.str).map dV), .tuple ((([] : List Str).map V.str).map dV)]
theorem told_dp {H : Hp} : ∀ {us : List Addr} {rs : List PR}, ToldAt K H us rs → DpAll K H (us.map V.ref) (rs.map dT)
  | [], [], _ => .nil
  | u :: us, r :: rs, ⟨⟨pb, pu, h1, h2, h3, h4⟩, h⟩ => by
    obtain ⟨g1, _, _⟩ := good_and h4
    obtain ⟨_, _, hn, _⟩ := pair_facts h4
    have dh : Dp K H r.1 (dV r.1) := dp_flat (ok_flat (ok_nm g1))
    exact .cons (.tup (.inl (.inl h1)) (.cons (.str _) (.cons dh (.cons (dp_names hn h2) (.cons (dp_names (xs := []) (fun z hz => by cases hz) h3) .nil))))) (told_dp h)
  | [], _ :: _, h => h.elim
  | _ :: _, [], h => h.elim
theorem told_lay {H : Hp} : ∀ {us : List Addr} {rs : List PR}, ToldAt K H us rs → PyData.canLayAll0 (rs.map dT) = true ∧ PyData.depthAll (rs.map dT) ≤ 2
  | [], [], _ => ⟨rfl, by decide⟩
  | u :: us, r :: rs, ⟨⟨pb, pu, h1, h2, h3, h4⟩, h⟩ => by
    obtain ⟨g1, _, _⟩ := good_and h4
    obtain ⟨_, _, hn, _⟩ := pair_facts h4
    obtain ⟨lx, px⟩ := lay_names hn
    obtain ⟨ly, py⟩ := lay_names (ss := []) (fun z hz => by cases hz)
    obtain ⟨lh, ph⟩ := lay_dV (ok_nm g1)
    obtain ⟨t1, t2⟩ := told_lay h
    constructor
    · show (PyData.canLay0 (dT r) && PyData.canLayAll0 (rs.map dT)) = true
      rw [t1, Bool.and_true]
      unfold dT
      simp only [PyData.canLay0, PyData.canLayAll0] at lx ly ⊢
      rw [lx, ly, lh, show PyData.strOk ("rule" : Str) = true by decide +kernel]; rfl
    · show max (PyData.depth (dT r)) (PyData.depthAll (rs.map dT)) ≤ 2
      have : PyData.depth (dT r) ≤ 2 := by
        show max 0 (max _ (max _ (max _ 0))) + 1 ≤ 2
        rw [px, py, ph]; decide
      omega
  | [], _ :: _, h => h.elim
  | _ :: _, [], h => h.elim
theorem ne_tolds {H : Hp} {Q : VK} {p q : Addr} {us vs : List Addr} {rs : List PR} (hu : ToldAt K H us rs) (hv : ToldAt K H vs rs) (hp : SqL K H p (us.map V.ref)) (hq : SqL K H q (vs.map V.ref)) (k : Q (.bl false) H) : gNe K (.ref p) (.ref q) H Q := by
  obtain ⟨t1, t2⟩ := told_lay hu
  exact g_ne_same (d := .list (rs.map dT)) (.lst hp (told_dp hu)) (.lst hq (told_dp hv)) (by simpa [PyData.canLay0] using t1) (by show PyData.depthAll (rs.map dT) + 1 ≤ 64; omega) k
theorem ne_strs {H : Hp} {Q : VK} {p q : Addr} {ys : List Str} (hn : Names ys) (hp : SqL K H p (ys.map V.str)) (hq : SqL K H q (ys.map V.str)) (k : Q (.bl false) H) : gNe K (.ref p) (.ref q) H Q := by
  obtain ⟨ly1, ly2⟩ := lay_all (ok_names hn)
  exact g_ne_same (d := .list ((ys.map V.str).map dV)) (.lst hp (dpAll_flat (okAll_flat (ok_names hn)))) (.lst hq (dpAll_flat (okAll_flat (ok_names hn)))) (by simpa [PyData.canLay0] using ly1) (by show PyData.depthAll ((ys.map V.str).map dV) + 1 ≤ 64; rw [ly2]; omega) k
theorem cut_last (xs : List V) (x : V) : cutV (xs ++ [x]) none (some (-1)) = xs := by
  unfold cutV
  have h1 : HT.sIx (xs ++ [x]).length (xs ++ [x]).length (some (-1)) = xs.length := by
    unfold HT.sIx
    simp
    omega
  rw [h1, HT.sIx_none, List.drop_zero, Nat.sub_zero, List.take_left']
  rfl
theorem rd__law_right {vs : List V} {H : Hp} {Q : VK} {E : XK} (R : RuleC K Z.Rule) (hU : ∀ H, SqT K H Z.dU []) (h : sp__law_right K Z vs H Q E) : t__law_right K Z { nx := fun _ H' => Q .non H', rt := Q } (start ["pairs", "some", "due", "handed", "kept", "asked", "found", "head", "body", "one"] vs) H := by
  obtain ⟨pp, ps, ts, rs, ss, W, rfl, hpp, hP, hl, hps, hW1, hW2, hW3, nm, nd, q⟩ := h
  show t__law_right K Z _ [some (.ref pp), some (.ref ps), none, none, none, none, none, none, none, none] H
  unfold t__law_right
  have hlt := PsAt.len hP
  have hN4 := lev_names hP nm nd
  walk_at "rd"
  refine ⟨pp, ps, ts, rs, ss, W, rfl, hpp, hP, hl, hps, hW1, hW2, hW3, nm, nd, fun fs d H1 e1 nd1 hL hd => ?_⟩
  have hfp : fs.Perm (keysF (levF rs ss)) := least_perm hL (lev_least hW1 hW2 hW3 nd)
  have hfl : fs.length ≤ 24 := by
    have := nodup_le (W := W) hL.1 (hL.2.2.2 (fun z => z ∈ W) (closedW hW1) hW2)
    omega
  have hfn : Names fs := fun z hz => hN4 z (hfp.mem_iff.mp hz)
  walk_at "rd"
  refine c_iL (sq_l (e1 _ _ hpp)) ?_
  have hP5 := hP.keep fun _ _ h => e1 _ _ h
  refine lc_inv walk_list (fun D i acc H' => Ex H1 H' ∧ ∃ as : List Addr, acc = as.map V.ref ∧ as.length = i ∧ RsAt K Z H' as (rs.take i)) (σ0 := [some (.ref pp), some (.ref ps), some (.ref d), none, none, none, none, none, none, none]) rfl (by rw [List.length_map]; omega) ?_ (fun D i acc H' h => sq_l (h.1 _ _ (e1 _ _ hpp))) ?_ ?_
  · exact fun D hD => ⟨Ex.new hD, [], rfl, rfl, by rw [List.take_zero]; trivial⟩
  · rintro D i acc x H6a H6 Q1 Q0 hD hi ⟨e6, as, rfl, hal, hR⟩ hacc _ ⟨rfl, hx⟩ k1 _
    rw [List.getElem?_map] at hx
    obtain ⟨t, ht, rfl⟩ := Option.map_eq_some_iff.mp hx
    obtain ⟨r, hr, b, hb1, hb2, hg⟩ := PsAt.get hP5 ht
    refine g_pair (.inl (.inl (e6 _ _ hb1))) ?_
    walk_at "rs"
    refine ⟨rfl, ?_⟩
    walk_at "rs"
    obtain ⟨g1, g2, g3⟩ := good_and hg
    refine mk_rule (h := r.1) (b := .ref b) (u := .ref Z.dU) (ob := some (r.2.map V.str)) (ou := some []) (thing_nm g1) (arg_t (.inl (.inl (e6 _ _ hb2))) g2 (by omega)) (arg_t (hU _) g3 (by omega)) (fun g ar H7 na e7 r7 => ?_) (fun g => by rw [hg] at g; cases g)
    have hD7 := e7 _ _ hacc
    have r7' : IsRule K Z H7 ar r.1 (r.2.map V.str) [] := r7
    refine k1 _ _ hD7 ⟨fun x o ho => by rw [keepD hD ho]; exact e7 _ _ (e6 _ _ ho), as ++ [ar], by rw [List.map_append]; rfl, by rw [List.length_append, hal]; rfl, ?_⟩
    rw [take_snoc hr]
    exact RsAt.exl (Exl.of hD7 Exb.upd) (RsAt.snoc r7' (RsAt.ex e7 hR))
  · rintro ph H2 xs hph ⟨e2, as, rfl, hal, hR⟩ _ h2
    rw [List.length_map, hlt, List.take_of_length_le (Nat.le_refl _)] at hR
    have hasl : as.length = rs.length := RsAt.len hR
    walk_at "rd"
    refine c_iL (sq_l h2) ?_
    -- a list of what is told
    refine lc_inv walk_list (fun D i acc H' => Ex H2 H' ∧ ∃ us : List Addr, acc = us.map V.ref ∧ us.length = i ∧ ToldAt K H' us (rs.take i)) (σ0 := [some (.ref pp), some (.ref ps), some (.ref d), some (.ref ph), none, none, none, none, none, none]) rfl (by rw [List.length_map]; omega) ?_ (fun D i acc H' h => sq_l (h.1 _ _ h2)) ?_ ?_
    · exact fun D hD => ⟨Ex.new hD, [], rfl, rfl, by rw [List.take_zero]; trivial⟩
    · rintro D i acc x H6a H6 Q1 Q0 hD hi ⟨e6, us, rfl, hul, hT⟩ hacc _ ⟨rfl, hx⟩ k1 _
      rw [List.getElem?_map] at hx
      obtain ⟨a, ha, rfl⟩ := Option.map_eq_some_iff.mp hx
      obtain ⟨r, hr, hI⟩ := RsAt.get (RsAt.ex e6 hR) ha
      walk_at "rs"
      refine ⟨rfl, ?_⟩
      walk_at "rs"
      obtain ⟨dx, pb0, pu0, g1, g2, g3, k5, k6, k7⟩ := id hI
      refine ⟨a, dx, _, rfl, g1, rfl, ?_⟩
      walk_at "rs"
      refine ⟨a, r.1, r.2.map V.str, [], rfl, hI, fun pt pb pu H7 e7 h7 hb hu => ?_⟩
      have hD7 := e7 _ _ hacc
      refine k1 _ _ hD7 ⟨fun x o ho => by rw [keepD hD ho]; exact e7 _ _ (e6 _ _ ho), us ++ [pt], by rw [List.map_append]; rfl, by rw [List.length_append, hul]; rfl, ?_⟩
      rw [take_snoc hr]
      exact ToldAt.exl (Exl.of hD7 Exb.upd) (ToldAt.snoc ⟨pb, pu, h7, hb, hu, good_of k5 k6 k7⟩ (ToldAt.exl (Exl.ofEx e7) hT))
    · rintro pk H3 xs hpk ⟨e3, us, rfl, hul, hT⟩ _ h3
      rw [List.length_map, hasl, List.take_of_length_le (Nat.le_refl _)] at hT
      walk_at "rd"
      refine g_listS (.inl (sq_l (e3 _ _ (e2 _ _ (e1 _ _ hps))))) (fun pa H4 n4 e4 h4 => ?_)
      walk_at "rd"
      refine ⟨ph, pa, as, rs, ss, W, rfl, .inl (sq_l (e4 _ _ (e3 _ _ h2))), RsAt.ex (e3.trans e4) hR, .inl (sq_l h4), hl, hW1, hW2, hW3, nm, nd, fun ys pf H5 e5 n5 hyp hys h5 => ?_⟩
      walk_at "rd"
      have hd5 := e5 _ _ (e4 _ _ (e3 _ _ (e2 _ _ hd)))
      refine g_sortL (sq_l hd5) (by omega) (fun ys2 pz H6 hyp2 hys2 n6 e6 h6 => ?_)
      have hyy : ys2 = ys := sorted_uniq (hyp2.trans (hfp.trans hyp.symm)) hys2 hys
      subst hyy
      walk_at "rd"
      refine ⟨pf, pz, ys2, ys2, rfl, e6 _ _ h5, h6, ?_, ?_, fun H7 e7 => ?_⟩
      · have := hyp2.length_eq; omega
      · have := hyp2.length_eq; omega
      have hyl : ys2.length ≤ 24 := by have := hyp2.length_eq; omega
      have hyn : Names ys2 := fun z hz => hfn z (hyp2.mem_iff.mp hz)
      rw [decide_eq_true rfl]
      refine ⟨_, rfl, ?_⟩
      refine c_2 (fun h => by cases h) (fun _ => ?_)
      walk_at "rd"
      have hf7 := e7 _ _ (e6 _ _ h5)
      refine ⟨ty_l hf7, ?_⟩
      walk_at "rd"
      refine g_append hf7 (by rw [List.length_map]; omega) (fun H8 e8 h8 => ?_)
      -- all but what is found stays
      have n4f : H4 pf = none := n5
      have up8 : ∀ {x : Addr} {o : HO}, H4 x = some o → H8 x = some o := fun {x o} h => e8 _ _ (fun k => by rw [k, n4f] at h; cases h) (e7 _ _ (e6 _ _ (e5 _ _ h)))
      have e48 : Ex H4 H8 := fun x o h => up8 h
      have e28 : Ex H2 H8 := (e3.trans e4).trans e48
      have hR8 := RsAt.ex e28 hR
      have hh8 := e28 _ _ h2
      walk_at "rd"
      refine c_iL (sq_l hh8) ?_
      refine lc_inv walk_list (fun D i acc H' => Ex H8 H' ∧ ∃ us : List Addr, acc = us.map V.ref ∧ us.length = i ∧ ToldAt K H' us (rs.take i)) (σ0 := [some (.ref pp), some (.ref ps), some (.ref d), some (.ref ph), some (.ref pk), some (.ref pa), some (.ref pf), none, none, none]) rfl (by rw [List.length_map]; omega) ?_ (fun D i acc H' h => sq_l (h.1 _ _ hh8)) ?_ ?_
      · exact fun D hD => ⟨Ex.new hD, [], rfl, rfl, by rw [List.take_zero]; trivial⟩
      · rintro D i acc x H6a H6 Q1 Q0 hD hi ⟨e6, us, rfl, hul, hT⟩ hacc _ ⟨rfl, hx⟩ k1 _
        rw [List.getElem?_map] at hx
        obtain ⟨a, ha, rfl⟩ := Option.map_eq_some_iff.mp hx
        obtain ⟨r, hr, hI⟩ := RsAt.get (RsAt.ex e6 hR8) ha
        walk_at "rs"
        refine ⟨rfl, ?_⟩
        walk_at "rs"
        obtain ⟨dx, pb0, pu0, g1, g2, g3, k5, k6, k7⟩ := id hI
        refine ⟨a, dx, _, rfl, g1, rfl, ?_⟩
        walk_at "rs"
        refine ⟨a, r.1, r.2.map V.str, [], rfl, hI, fun pt pb pu H7 e7 h7 hb hu => ?_⟩
        have hD7 := e7 _ _ hacc
        refine k1 _ _ hD7 ⟨fun x o ho => by rw [keepD hD ho]; exact e7 _ _ (e6 _ _ ho), us ++ [pt], by rw [List.map_append]; rfl, by rw [List.length_append, hul]; rfl, ?_⟩
        rw [take_snoc hr]
        exact ToldAt.exl (Exl.of hD7 Exb.upd) (ToldAt.snoc ⟨pb, pu, h7, hb, hu, good_of k5 k6 k7⟩ (ToldAt.exl (Exl.ofEx e7) hT))
      · rintro pk2 H9 xs hpk2 ⟨e9, us2, rfl, hul2, hT2⟩ _ h9
        rw [List.length_map, hasl, List.take_of_length_le (Nat.le_refl _)] at hT2
        have e49 := e48.trans e9
        have hT9 := ToldAt.exl (Exl.ofEx (e4.trans e49)) hT
        walk_at "rs"
        refine ne_tolds hT2 hT9 (sq_l h9) (sq_l (e49 _ _ (e4 _ _ h3))) ?_
        refine ⟨_, rfl, ?_⟩
        refine c_f ?_
        walk_at "rd"
        have hps4 : H4 ps = some (.lst (ss.map V.str)) := e4 _ _ (e3 _ _ (e2 _ _ (e1 _ _ hps)))
        refine ne_strs nm (sq_l (e49 _ _ h4)) (sq_l (e49 _ _ hps4)) ?_
        refine ⟨_, rfl, ?_⟩
        refine c_f ?_
        walk_at "rd"
        refine g_tupS (sq_l (e9 _ _ hh8)) (fun t1 HA nA eA hA => ?_)
        walk_at "rd"
        refine g_tupS (sq_l (eA _ _ (e49 _ _ h4))) (fun t2 HB nB eB hB => ?_)
        walk_at "rd"
        have e8B : Ex H8 HB := e9.trans (eA.trans eB)
        have e4B := e48.trans e8B
        refine ⟨t1, t2, as, rs, ss, W, rfl, .inr (.inl (.inl (eB _ _ hA))), RsAt.ex e8B hR8, .inr (.inl (.inl hB)), hl, hW1, hW2, hW3, nm, nd, fun ys3 r3 HC eC nC hyp3 hys3 hC => ?_⟩
        have hyy : ys3 = ys2 := sorted_uniq (hyp3.trans hyp.symm) hys3 hys
        subst hyy
        walk_at "rd"
        refine g_sl_l (sq_l (eC _ _ (e8B _ _ h8))) (fun r4 HD nD eD hD => ?_)
        rw [cut_last] at hD
        refine ne_strs hyn (sq_l (eD _ _ hC)) (sq_l hD) ?_
        refine ⟨_, rfl, ?_⟩
        refine c_f ?_
        have e8D := e8B.trans (eC.trans eD)
        have e4D := e48.trans e8D
        walk_at "rd"
        refine ⟨ph, pa, as, rs, ss, W, rfl, .inl (sq_l (e8D _ _ hh8)), RsAt.ex e8D hR8, .inl (sq_l (e4D _ _ h4)), hl, hW1, hW2, hW3, nm, nd, fun HE eE => ?_⟩
        have e8E := e8D.trans eE
        have e4E := e48.trans e8E
        walk_at "rd"
        refine g_tupS (sq_l (e8E _ _ hh8)) (fun t3 HF nF eF hF => ?_)
        walk_at "rd"
        refine g_tupS (sq_l (eF _ _ (e4E _ _ h4))) (fun t4 HG nG eG hG => ?_)
        have e8G := e8E.trans (eF.trans eG)
        walk_at "rd"
        refine ⟨t3, t4, as, rs, ss, W, rfl, .inr (.inl (.inl (eG _ _ hF))), RsAt.ex e8G hR8, .inr (.inl (.inl hG)), hl, hW1, hW2, hW3, nm, nd, fun HI eI => ?_⟩
        have e8I := e8G.trans eI
        have e4I := e48.trans e8I
        walk_at "rd"
        refine c_lstE (by simp) (fun l1 HJ nJ eJ hJ => ?_)
        have e4J := e4I.trans eJ
        have eHJ : Ex H HJ := e1.trans (e2.trans (e3.trans (e4.trans e4J)))
        walk_at "rd"
        refine ⟨pp, d, ts, rs, fs, rfl, eHJ _ _ hpp, hP.keep fun _ _ h => eHJ _ _ h, hl, e4J _ _ (e4 _ _ (e3 _ _ (e2 _ _ hd))), by omega, fun HK eK => ?_⟩
        walk_at "rd"
        refine c_lstE (by simp) (fun l2 HL nL eL hLL => ?_)
        walk_at "rd"
        refine .inr ⟨l2, 2, _, rfl, rfl, hLL, by omega, by omega, by show _ ≤ sizeLine; exact sz_of (by simp), fun l3 nl3 => ?_⟩
        have eM : Ex HL (upd HL l3 (.lst (List.replicate (2 : Int).toNat [V.bl (neverIn rs fs)]).flatten)) := Ex.new nl3
        have hM : upd HL l3 (.lst (List.replicate (2 : Int).toNat [V.bl (neverIn rs fs)]).flatten) l3 = some (.lst [V.bl (neverIn rs fs), V.bl (neverIn rs fs)]) := upd_same
        generalize upd HL l3 (.lst (List.replicate (2 : Int).toNat [V.bl (neverIn rs fs)]).flatten) = HM at eM hM
        have hb1 : HM l1 = some (.lst [V.bl (neverIn rs fs), V.bl (neverIn rs fs)]) := by
          rw [never_congr (a := fs) (b := keysF (levF rs ss)) fun z => hfp.mem_iff]
          exact eM _ _ (eL _ _ (eK _ _ hJ))
        walk_at "rs"
        generalize neverIn rs fs = bb at hM hb1
        have hok : [V.bl bb, V.bl bb].all okV = true := rfl
        refine g_eq_same (d := .list ([V.bl bb, V.bl bb].map dV)) (.lst (sq_l hb1) (dpAll_flat (okAll_flat hok))) (.lst (sq_l hM) (dpAll_flat (okAll_flat hok))) (by cases bb <;> decide +kernel) (by cases bb <;> decide +kernel) ?_
        exact q _ (e1.trans (e2.trans (e3.trans (e4.trans (e4J.trans (eK.trans (eL.trans eM)))))))

end
end K11

set_option maxHeartbeats 800000
namespace K11
open PySem PySem.Spec PyProof.Rows L2 Evl Gx
local macro_rules | `(tactic| walk_at "get") => `(tactic| first
  | assumption
  | exact upd_same
  | ((with_reducible refine sq_l ?_); walk_at "get")
  | ((with_reducible refine sq_t ?_); walk_at "get")
  | ((with_reducible refine ex_l (by assumption) ?_); walk_at "get")
  | ((with_reducible refine ex_t (by assumption) ?_); walk_at "get")
  | ((with_reducible refine Draw.ex (by assumption) ?_); walk_at "get")
  | ((with_reducible refine Arg.ex (by assumption) ?_); walk_at "get")
  | ((with_reducible refine IsRule.ex (by assumption) ?_); walk_at "get")
  | ((with_reducible refine Thing.ex (by assumption) ?_); walk_at "get")
  | ((with_reducible refine exget (by assumption) ?_); walk_at "get"))
local macro_rules | `(tactic| walk_at "rd1") => `(tactic| first
  | (with_reducible refine c_seq ?_)
  | (with_reducible refine c_next ?_)
  | (with_reducible refine c_drop ?_)
  | (with_reducible refine c_ret ?_)
  | (with_reducible refine c_retN ?_)
  | (with_reducible refine c_ifs ?_)
  | (with_reducible refine c_c ?_)
  | (with_reducible refine c_op ?_)
  | (with_reducible refine c_un ?_)
  | (with_reducible refine c_cb ?_)
  | (with_reducible refine c_nil ?_)
  | (with_reducible refine c_cons ?_)
  | (with_reducible refine c_call ?_)
  | (with_reducible refine c_callK ?_)
  | (with_reducible refine c_test ?_)
  | (with_reducible refine c_tB ?_)
  | (with_reducible refine c_and ?_)
  | (with_reducible refine c_or ?_)
  | (with_reducible refine c_not ?_)
  | (with_reducible refine c_andV ?_)
  | (with_reducible refine c_orV ?_)
  | (with_reducible refine c_notV ?_)
  | (with_reducible refine c_if ?_)
  | (with_reducible refine c_chain ?_)
  | (with_reducible refine c_sl ?_)
  | (with_reducible refine c_nop ?_)
  | (with_reducible refine c_part ?_)
  | (with_reducible refine c_lst ?_)
  | (with_reducible refine c_tup ?_)
  | (with_reducible refine c_bl ?_)
  | (with_reducible refine c_blP ?_)
  | (with_reducible refine c_parti ?_)
  | (with_reducible refine c_t ?_)
  | (with_reducible refine c_f ?_)
  | (with_reducible refine g_add_i ?_)
  | (with_reducible refine g_sub_i ?_)
  | (with_reducible refine g_neg ?_)
  | (with_reducible refine g_eq_i ?_)
  | (with_reducible refine g_eq_st ?_)
  | (with_reducible refine g_eq_b ?_)
  | (with_reducible refine g_ne_i ?_)
  | (with_reducible refine g_ne_st ?_)
  | (with_reducible refine g_ne_b ?_)
  | (with_reducible refine g_lt_i ?_)
  | (with_reducible refine g_le_i ?_)
  | (with_reducible refine g_gt_i ?_)
  | (with_reducible refine g_ge_i ?_)
  | (with_reducible refine g_le_s ?_)
  | (with_reducible refine g_in_s ?_)
  | (with_reducible refine g_ni_s ?_)
  | (with_reducible refine c_brk ?_)
  | (with_reducible refine c_cont ?_)
  | (with_reducible refine c_for ?_)
  | (with_reducible refine c_lcW ?_)
  | (with_reducible refine c_iList ?_)
  | (with_reducible refine c_iTup ?_)
  | (with_reducible refine c_iStr ?_)
  | (with_reducible refine c_iRng1 ?_)
  | (with_reducible refine c_iS ?_)
  | (with_reducible refine c_yes ?_)
  | (with_reducible refine c_sub ?_)
  | (with_reducible refine c_pair ?_)
  | (with_reducible refine c_pnil ?_)
  | (with_reducible refine c_isn ?_)
  | (with_reducible refine c_notn ?_)
  | (with_reducible refine c_sfld ?_)
  | (with_reducible refine c_fld ?_)
  | (with_reducible refine c_raise ?_)
  | (with_reducible refine c_meth0 ?_)
  | (with_reducible refine c_iEnum ?_)
  | (with_reducible refine c_bm ?_)
  | (with_reducible refine c_bm0 ?_)
  | (with_reducible refine c_mk ?_)
  | (with_reducible refine c_try ?_)
  | (with_reducible refine c_iEnumT ?_)
  | (with_reducible refine c_callKS ?_)
  | (with_reducible refine c_tryO ?_)
  | (with_reducible refine c_repl ?_)
  | (with_reducible refine c_fmt ?_)
  | (with_reducible refine c_fs ?_)
  | (with_reducible refine c_jn ?_)
  | (with_reducible refine c_jc ?_)
  | (with_reducible refine c_tru ?_)
  | (with_reducible refine c_m1 ?_)
  | (with_reducible refine c_dget ?_)
  | (with_reducible refine c_din ?_)
  | (with_reducible refine c_dni ?_)
  | (with_reducible refine c_dput ?_)
  | (with_reducible refine c_star ?_)
  | (with_reducible refine c_while ?_)
  | (with_reducible refine c_dcW ?_)
  | (with_reducible refine c_var0 ?_)
  | (with_reducible refine c_asg0 ?_)
  | (with_reducible refine c_nam0 ?_)
  | (with_reducible refine c_var1 ?_)
  | (with_reducible refine c_asg1 ?_)
  | (with_reducible refine c_nam1 ?_)
  | (with_reducible refine c_var2 ?_)
  | (with_reducible refine c_asg2 ?_)
  | (with_reducible refine c_nam2 ?_)
  | (with_reducible refine c_var3 ?_)
  | (with_reducible refine c_asg3 ?_)
  | (with_reducible refine c_nam3 ?_)
  | (with_reducible refine c_var4 ?_)
  | (with_reducible refine c_asg4 ?_)
  | (with_reducible refine c_nam4 ?_)
  | (with_reducible refine c_var5 ?_)
  | (with_reducible refine c_asg5 ?_)
  | (with_reducible refine c_nam5 ?_)
  | (with_reducible refine c_var6 ?_)
  | (with_reducible refine c_asg6 ?_)
  | (with_reducible refine c_nam6 ?_)
  | (with_reducible refine c_var7 ?_)
  | (with_reducible refine c_asg7 ?_)
  | (with_reducible refine c_nam7 ?_)
  | (with_reducible refine c_var8 ?_)
  | (with_reducible refine c_asg8 ?_)
  | (with_reducible refine c_nam8 ?_)
  | (with_reducible refine c_var9 ?_)
  | (with_reducible refine c_asg9 ?_)
  | (with_reducible refine c_nam9 ?_)
  | (with_reducible refine c_var10 ?_)
  | (with_reducible refine c_asg10 ?_)
  | (with_reducible refine c_nam10 ?_)
  | (with_reducible refine c_var11 ?_)
  | (with_reducible refine c_asg11 ?_)
  | (with_reducible refine c_nam11 ?_)
  | (with_reducible refine c_var12 ?_)
  | (with_reducible refine c_asg12 ?_)
  | (with_reducible refine c_nam12 ?_)
  | (with_reducible refine c_var13 ?_)
  | (with_reducible refine c_asg13 ?_)
  | (with_reducible refine c_nam13 ?_)
  | (with_reducible refine c_var14 ?_)
  | (with_reducible refine c_asg14 ?_)
  | (with_reducible refine c_nam14 ?_)
  | (with_reducible refine c_var15 ?_)
  | (with_reducible refine c_asg15 ?_)
  | (with_reducible refine c_nam15 ?_)
  | (with_reducible refine c_asgG ?_)
  | ((with_reducible refine g_ix_l (xs := ?gxa) (v := ?gxb) ?gx1 ?gx2 ?gx3); (case gx1 => walk_at "get"); (case gx2 => rfl))
  | ((with_reducible refine g_len_l (xs := ?gxa) (.inl ?gx1) ?gx3); (case gx1 => walk_at "get"))
  | ((with_reducible refine g_mod_i ?gx1 ?gx3); (case gx1 => omega)))
local macro_rules | `(tactic| walk_at "rd") => `(tactic| repeat walk_at "rd1")
local macro_rules | `(tactic| walk_at "rs1") => `(tactic| first
  | (with_reducible refine c_next ?_)
  | (with_reducible refine c_drop ?_)
  | (with_reducible refine c_ret ?_)
  | (with_reducible refine c_retN ?_)
  | (with_reducible refine c_ifs ?_)
  | (with_reducible refine c_c ?_)
  | (with_reducible refine c_op ?_)
  | (with_reducible refine c_un ?_)
  | (with_reducible refine c_cb ?_)
  | (with_reducible refine c_nil ?_)
  | (with_reducible refine c_cons ?_)
  | (with_reducible refine c_call ?_)
  | (with_reducible refine c_callK ?_)
  | (with_reducible refine c_test ?_)
  | (with_reducible refine c_tB ?_)
  | (with_reducible refine c_and ?_)
  | (with_reducible refine c_or ?_)
  | (with_reducible refine c_not ?_)
  | (with_reducible refine c_andV ?_)
  | (with_reducible refine c_orV ?_)
  | (with_reducible refine c_notV ?_)
  | (with_reducible refine c_chain ?_)
  | (with_reducible refine c_sl ?_)
  | (with_reducible refine c_nop ?_)
  | (with_reducible refine c_part ?_)
  | (with_reducible refine c_lst ?_)
  | (with_reducible refine c_tup ?_)
  | (with_reducible refine c_bl ?_)
  | (with_reducible refine c_blP ?_)
  | (with_reducible refine c_parti ?_)
  | (with_reducible refine c_t ?_)
  | (with_reducible refine c_f ?_)
  | (with_reducible refine g_add_i ?_)
  | (with_reducible refine g_sub_i ?_)
  | (with_reducible refine g_neg ?_)
  | (with_reducible refine g_eq_i ?_)
  | (with_reducible refine g_eq_st ?_)
  | (with_reducible refine g_eq_b ?_)
  | (with_reducible refine g_ne_i ?_)
  | (with_reducible refine g_ne_st ?_)
  | (with_reducible refine g_ne_b ?_)
  | (with_reducible refine g_lt_i ?_)
  | (with_reducible refine g_le_i ?_)
  | (with_reducible refine g_gt_i ?_)
  | (with_reducible refine g_ge_i ?_)
  | (with_reducible refine g_le_s ?_)
  | (with_reducible refine g_in_s ?_)
  | (with_reducible refine g_ni_s ?_)
  | (with_reducible refine c_brk ?_)
  | (with_reducible refine c_cont ?_)
  | (with_reducible refine c_for ?_)
  | (with_reducible refine c_lcW ?_)
  | (with_reducible refine c_iList ?_)
  | (with_reducible refine c_iTup ?_)
  | (with_reducible refine c_iStr ?_)
  | (with_reducible refine c_iRng1 ?_)
  | (with_reducible refine c_iS ?_)
  | (with_reducible refine c_yes ?_)
  | (with_reducible refine c_sub ?_)
  | (with_reducible refine c_pair ?_)
  | (with_reducible refine c_pnil ?_)
  | (with_reducible refine c_isn ?_)
  | (with_reducible refine c_notn ?_)
  | (with_reducible refine c_sfld ?_)
  | (with_reducible refine c_fld ?_)
  | (with_reducible refine c_raise ?_)
  | (with_reducible refine c_meth0 ?_)
  | (with_reducible refine c_iEnum ?_)
  | (with_reducible refine c_bm ?_)
  | (with_reducible refine c_bm0 ?_)
  | (with_reducible refine c_mk ?_)
  | (with_reducible refine c_try ?_)
  | (with_reducible refine c_iEnumT ?_)
  | (with_reducible refine c_callKS ?_)
  | (with_reducible refine c_tryO ?_)
  | (with_reducible refine c_repl ?_)
  | (with_reducible refine c_fmt ?_)
  | (with_reducible refine c_fs ?_)
  | (with_reducible refine c_jn ?_)
  | (with_reducible refine c_jc ?_)
  | (with_reducible refine c_tru ?_)
  | (with_reducible refine c_m1 ?_)
  | (with_reducible refine c_dget ?_)
  | (with_reducible refine c_din ?_)
  | (with_reducible refine c_dni ?_)
  | (with_reducible refine c_dput ?_)
  | (with_reducible refine c_star ?_)
  | (with_reducible refine c_while ?_)
  | (with_reducible refine c_dcW ?_)
  | (with_reducible refine c_var0 ?_)
  | (with_reducible refine c_asg0 ?_)
  | (with_reducible refine c_nam0 ?_)
  | (with_reducible refine c_var1 ?_)
  | (with_reducible refine c_asg1 ?_)
  | (with_reducible refine c_nam1 ?_)
  | (with_reducible refine c_var2 ?_)
  | (with_reducible refine c_asg2 ?_)
  | (with_reducible refine c_nam2 ?_)
  | (with_reducible refine c_var3 ?_)
  | (with_reducible refine c_asg3 ?_)
  | (with_reducible refine c_nam3 ?_)
  | (with_reducible refine c_var4 ?_)
  | (with_reducible refine c_asg4 ?_)
  | (with_reducible refine c_nam4 ?_)
  | (with_reducible refine c_var5 ?_)
  | (with_reducible refine c_asg5 ?_)
  | (with_reducible refine c_nam5 ?_)
  | (with_reducible refine c_var6 ?_)
  | (with_reducible refine c_asg6 ?_)
  | (with_reducible refine c_nam6 ?_)
  | (with_reducible refine c_var7 ?_)
  | (with_reducible refine c_asg7 ?_)
  | (with_reducible refine c_nam7 ?_)
  | (with_reducible refine c_var8 ?_)
  | (with_reducible refine c_asg8 ?_)
  | (with_reducible refine c_nam8 ?_)
  | (with_reducible refine c_var9 ?_)
  | (with_reducible refine c_asg9 ?_)
  | (with_reducible refine c_nam9 ?_)
  | (with_reducible refine c_var10 ?_)
  | (with_reducible refine c_asg10 ?_)
  | (with_reducible refine c_nam10 ?_)
  | (with_reducible refine c_var11 ?_)
  | (with_reducible refine c_asg11 ?_)
  | (with_reducible refine c_nam11 ?_)
  | (with_reducible refine c_var12 ?_)
  | (with_reducible refine c_asg12 ?_)
  | (with_reducible refine c_nam12 ?_)
  | (with_reducible refine c_var13 ?_)
  | (with_reducible refine c_asg13 ?_)
  | (with_reducible refine c_nam13 ?_)
  | (with_reducible refine c_var14 ?_)
  | (with_reducible refine c_asg14 ?_)
  | (with_reducible refine c_nam14 ?_)
  | (with_reducible refine c_var15 ?_)
  | (with_reducible refine c_asg15 ?_)
  | (with_reducible refine c_nam15 ?_)
  | (with_reducible refine c_asgG ?_)
  | ((with_reducible refine g_ix_l (xs := ?gxa) (v := ?gxb) ?gx1 ?gx2 ?gx3); (case gx1 => walk_at "get"); (case gx2 => rfl))
  | ((with_reducible refine g_len_l (xs := ?gxa) (.inl ?gx1) ?gx3); (case gx1 => walk_at "get"))
  | ((with_reducible refine g_mod_i ?gx1 ?gx3); (case gx1 => omega)))
local macro_rules | `(tactic| walk_at "rs") => `(tactic| repeat walk_at "rs1")
section
variable {P : Program} {w : World} {K : PySem.W.Frag} {mg : Str → Option Value} {base : Heap} {Z : Ads}
theorem c_ifJ {b : Bool} {t u : TE} {σ : L2.St} {H : Hp} {F : VK} (P : V → Hp → Prop) (h1 : b = true → ∀ N : VK, (∀ v H', P v H' → N v H') → t σ H N) (h2 : b = false → ∀ N : VK, (∀ v H', P v H' → N v H') → u σ H N) (h3 : ∀ v H', P v H' → F v H') : if b = true then t σ H F else u σ H F := by
  cases b with
  | true => exact h1 rfl F h3
  | false => exact h2 rfl F h3
theorem rd_law {vs : List V} {H : Hp} {Q : VK} {E : XK} (R : RuleC K Z.Rule) (hU : ∀ H, SqT K H Z.dU []) (h : sp_law P w K Z vs H Q E) : t_law P w K Z { nx := fun _ H' => Q .non H', rt := Q } (start ["script", "state", "wide", "used", "words", "pairs", "some", "base", "head", "body"] vs) H := by
  obtain ⟨a, ns, rfl, hA, hn, q⟩ := h
  show t_law P w K Z _ [some (.ref a), none, none, none, none, none, none, none, none, none] H
  unfold t_law
  walk_at "rd"
  refine ⟨a, ns, rfl, hA, hn, fun st H1 nst hS e1 => ?_⟩
  walk_at "rd"
  refine c_tak hS (by omega) (by omega) (fun n1 H2 a0 a1 e2 => ?_)
  walk_at "rd"
  refine ⟨rfl, fun u H3 nu e3 hu => ?_⟩
  have hS3 := hS.ex (e2.trans e3)
  walk_at "rd"
  refine ⟨_, rfl, ?_⟩
  with_reducible refine c_ifJ (fun v H' => ∃ m : Nat, v = .int (m : Nat) ∧ 1 ≤ m ∧ m ≤ 22 ∧ Ex H3 H') ?_ ?_ ?_
  · intro _ N hN
    walk_at "rs"
    refine c_tak hS3 (by omega) (by omega) (fun n2 H4 b0 b1 e4 => ?_)
    walk_at "rs"
    exact hN _ _ ⟨(14 + n2).toNat, by rw [Int.toNat_of_nonneg (by omega)], by omega, by omega, e4⟩
  · intro _ N hN
    walk_at "rs"
    refine c_tak hS3 (by omega) (by omega) (fun n2 H4 b0 b1 e4 => ?_)
    walk_at "rs"
    exact hN _ _ ⟨(1 + n2).toNat, by rw [Int.toNat_of_nonneg (by omega)], by omega, by omega, e4⟩
  rintro _ H4 ⟨m, rfl, m1, m22, e4⟩
  walk_at "rd"
  refine ⟨st, u, taken, m, rfl, hS3.ex e4, e4 _ _ hu, used_taken, (by have := taken3; omega), ?_⟩
  intro zs pw H5 hzl hznd hzn hzu npw hpu eb5 hpw hu5 hS5
  walk_at "rd"
  refine ⟨_, rfl, ?_⟩
  with_reducible refine c_ifJ (fun v H' => ∃ m : Nat, v = .int (m : Nat) ∧ m ≤ 38 ∧ H' = H5) ?_ ?_ ?_
  · intro _ N hN
    walk_at "rs"
    exact hN _ _ ⟨38, rfl, by omega, rfl⟩
  · intro _ N hN
    walk_at "rs"
    exact hN _ _ ⟨12, rfl, by omega, rfl⟩
  rintro _ _ ⟨mp, rfl, mp38, rfl⟩
  walk_at "rd"
  refine ⟨st, pw, zs, mp, rfl, hS5, hpw, hzn, hznd, by omega, by omega, by omega, ?_⟩
  intro pp ts rs H6 e6 hpp hP hrl hrn
  walk_at "rd"
  refine c_tak (hS5.ex e6) (by omega) (by omega) (fun m2 H7 d0 d1 e7 => ?_)
  walk_at "rd"
  obtain ⟨m', rfl⟩ : ∃ m' : Nat, m2 = m' := ⟨m2.toNat, by omega⟩
  refine ⟨st, u, taken ++ zs, m', rfl, hS5.ex (e6.trans e7), e7 _ _ (e6 _ _ hu5), ⟨fun z h => List.mem_append.mpr (.inl h), by rw [List.length_append, taken3]; omega, fun z hz => ?_⟩, (by rw [List.length_append, taken3]; omega), ?_⟩
  · rcases List.mem_append.mp hz with k | k
    · exact used_taken.2.2 z k
    · have := (nameS_iff z).mp (hzn z k)
      exact ⟨this.1, this.2.2⟩
  intro ys pw2 H8 hyl hynd hyn hyu npw2 hpu2 eb8 hpw2 hu8 hS8
  have hpw8 : H8 pw = some (.lst (zs.map V.str)) := eb8 _ _ hpu (e7 _ _ (e6 _ _ hpw))
  have hupp : pp ≠ u := fun k => by
    rw [k, e6 _ _ hu5] at hpp
    injection hpp with h1
    injection h1 with h2
    have h3 : ∀ x ∈ (taken ++ zs).map V.str, ∃ q, x = V.ref q := fun x hx => by
      rw [h2] at hx
      obtain ⟨q, _, rfl⟩ := List.mem_map.mp hx
      exact ⟨q, rfl⟩
    obtain ⟨q, hq⟩ := h3 (V.str "not") (List.mem_map.mpr ⟨_, List.mem_append.mpr (.inl (by decide +kernel)), rfl⟩)
    cases hq
  refine g_add_l hpw8 hpw2 (by rw [List.length_map, List.length_map]; omega) (fun p3 H9 n9 e9 h9 => ?_)
  have h9' : H9 p3 = some (.lst ((zs ++ ys).map V.str)) := by rw [h9, List.map_append]
  have hnd : (zs ++ ys).Nodup := List.nodup_append.mpr ⟨hznd, hynd, fun a ha b hb k => hyu b hb (List.mem_append.mpr (.inr (k ▸ ha)))⟩
  walk_at "rd"
  refine ⟨st, p3, zs ++ ys, rfl, hS8.ex e9, h9', hnd, by rw [List.length_append]; omega, ?_⟩
  intro xs ps H10 e10 hps hxnd hxs
  have hS10 := hS8.ex (e9.trans e10)
  have hpp10 : H10 pp = some (.lst (ts.map V.ref)) := e10 _ _ (e9 _ _ (eb8 _ _ hupp (e7 _ _ hpp)))
  have hP10 : PsAt H10 ts rs := hP.keep fun x xs h => e10 _ _ (e9 _ _ (eb8 _ _ (fun k => by rw [k, e6 _ _ hu5] at h; cases h) (e7 _ _ h)))
  have hW1 : ∀ z ∈ Gx.namesOf rs, z ∈ zs ++ ys := fun z hz => List.mem_append.mpr (.inl (hrn z hz))
  have hW3 : (zs ++ ys).length ≤ 24 := by rw [List.length_append]; omega
  have hxn : Names xs := by
    intro z hz
    rcases List.mem_append.mp (hxs z hz) with k | k
    · exact hzn z k
    · exact hyn z k
  generalize zs ++ ys = W at hxs hW1 hW3
  walk_at "rd"
  refine ⟨pp, ps, ts, rs, xs, W, rfl, hpp10, hP10, by omega, hps, hW1, hxs, hW3, hxn, hxnd, fun H11 e11 => ?_⟩
  refine ⟨_, rfl, ?_⟩
  refine c_2 (fun h => by cases h) (fun _ => ?_)
  walk_at "rd"
  refine ⟨st, pp, ts, rs, W, rfl, hS10.ex e11, e11 _ _ hpp10, hP10.keep fun _ _ h => e11 _ _ h, by omega, hW1, ?_⟩
  intro pq ts' rs' H12 e12 hpq hP' hl' hW'
  have e1012 := e11.trans e12
  walk_at "rd"
  refine ⟨pq, ps, ts', rs', xs, W, rfl, hpq, hP', hl', e1012 _ _ hps, hW', hxs, hW3, hxn, hxnd, fun H13 e13 => ?_⟩
  refine ⟨_, rfl, ?_⟩
  refine c_2 (fun h => by cases h) (fun _ => ?_)
  have e1013 := e1012.trans e13
  walk_at "rd"
  have hpp13 := e1013 _ _ hpp10
  have hP13 := hP10.keep fun _ _ h => e1013 _ _ h
  have hlt := PsAt.len hP13
  refine c_iL (sq_l hpp13) ?_
  refine lc_inv walk_list (fun D i acc H' => Ex H13 H' ∧ ∃ as : List Addr, acc = as.map V.ref ∧ as.length = i ∧ RsAt K Z H' as (rs.take i)) (σ0 := [some (.ref a), some (.ref st), some (.bl (decide (n1 = 0))), some (.ref u), some (.ref pw), some (.ref pp), some (.ref ps), none, none, none]) rfl (by rw [List.length_map]; omega) ?_ (fun D i acc H' h => sq_l (h.1 _ _ hpp13)) ?_ ?_
  · exact fun D hD => ⟨Ex.new hD, [], rfl, rfl, by rw [List.take_zero]; trivial⟩
  · rintro D i acc x H6a H6 Q1 Q0 hD hi ⟨e6, as, rfl, hal, hR⟩ hacc _ ⟨rfl, hx⟩ k1 _
    rw [List.getElem?_map] at hx
    obtain ⟨t, ht, rfl⟩ := Option.map_eq_some_iff.mp hx
    obtain ⟨r, hr, b, hb1, hb2, hg⟩ := PsAt.get hP13 ht
    refine g_pair (.inl (.inl (e6 _ _ hb1))) ?_
    walk_at "rs"
    refine ⟨rfl, ?_⟩
    walk_at "rs"
    obtain ⟨g1, g2, g3⟩ := good_and hg
    refine mk_rule (h := r.1) (b := .ref b) (u := .ref Z.dU) (ob := some (r.2.map V.str)) (ou := some []) (thing_nm g1) (arg_t (.inl (.inl (e6 _ _ hb2))) g2 (by omega)) (arg_t (hU _) g3 (by omega)) (fun g ar H7 na e7 r7 => ?_) (fun g => by rw [hg] at g; cases g)
    have hD7 := e7 _ _ hacc
    have r7' : IsRule K Z H7 ar r.1 (r.2.map V.str) [] := r7
    refine k1 _ _ hD7 ⟨fun x o ho => by rw [keepD hD ho]; exact e7 _ _ (e6 _ _ ho), as ++ [ar], by rw [List.map_append]; rfl, by rw [List.length_append, hal]; rfl, ?_⟩
    rw [take_snoc hr]
    exact RsAt.exl (Exl.of hD7 Exb.upd) (RsAt.snoc r7' (RsAt.ex e7 hR))
  · rintro pb H14 xs0 hpb ⟨e14, as, rfl, hal, hR⟩ _ h14
    rw [List.length_map, hlt, List.take_of_length_le (Nat.le_refl _)] at hR
    walk_at "rd"
    refine ⟨pb, ps, as, rs, xs, W, rfl, .inl (sq_l h14), hR, .inl (sq_l (e14 _ _ (e1013 _ _ hps))), by omega, hW1, hxs, hW3, hxn, hxnd, fun H15 e15 => ?_⟩
    walk_at "rd"
    refine g_isi (b := true) (.ty "bool") (.base (.bl _)) (kit_kinds (n := "bool") (by decide) (by decide)) ?_
    refine ⟨_, rfl, ?_⟩
    refine c_t ?_
    walk_at "rd"
    refine c_lstE (by simp) (fun l1 H16 n16 e16 h16 => ?_)
    walk_at "rd"
    refine c_lstE (by simp) (fun l2 H17 n17 e17 h17 => ?_)
    walk_at "rd"
    refine ⟨l1, l2, [], [], [], [], rfl, .inl (sq_l (e17 _ _ h16)), trivial, .inl (sq_l h17), by simp, by simp [Gx.namesOf], by simp, by simp, fun z hz => (by cases hz), List.nodup_nil, fun H18 e18 => ?_⟩
    walk_at "rd"
    refine g_isi (b := true) (.ty "bool") (.base (.bl _)) (kit_kinds (n := "bool") (by decide) (by decide)) ?_
    exact q _

end
end K11

namespace K11
open PySem PySem.Spec PyProof.Rows L2 Evl Gx
local macro_rules | `(tactic| walk_at "len") => `(tactic| first | (rintro ⟨hh, _⟩; subst hh; rfl) | (rintro ⟨_, hh, _⟩; subst hh; rfl) | (rintro ⟨_, _, hh, _⟩; subst hh; rfl) | (rintro ⟨_, _, _, hh, _⟩; subst hh; rfl) | (rintro ⟨_, _, _, _, hh, _⟩; subst hh; rfl) | (rintro ⟨_, _, _, _, _, hh, _⟩; subst hh; rfl) | (rintro ⟨_, _, _, _, _, _, hh, _⟩; subst hh; rfl) | (rintro ⟨_, _, _, _, _, _, _, hh, _⟩; subst hh; rfl) | (rintro ⟨_, _, _, _, _, _, _, _, hh, _⟩; subst hh; rfl))
def Z0 : Ads := ⟨0, 0, 0, 0, 0, 0, 0, 0, 0, 0, 0, 0, 0, 0, 0, 0, 0, 0, 0, 0, 0, 0, 0, 0, 0, 0, 0, 0, 0, 0⟩
theorem kit_self {K : PySem.W.Frag} {t : Value} : PySem.W.kitOne K t t = some true := by
  unfold PySem.W.kitOne
  rw [if_pos (beq_self_eq_true t)]
theorem kit_cr {K : PySem.W.Frag} {t : Value} {C : Addr} {b : Bool} (i : PySem.W.isClsIn K C = true) (ty : PySem.W.typeIn K (.ref C) = some (.type "type")) (s : PySem.W.subIn K t (.ref C) = some b) : PySem.W.kitCls K t (.ref C) = some b := by
  have i' : (PySem.W.clsIn K C).isSome = true := i
  have e : ((PySem.W.clsIn K C).isSome && PySem.W.typeIn K (.ref C) == some (.type "type")) = true := by rw [i', ty]; rfl
  show (if ((PySem.W.clsIn K C).isSome && PySem.W.typeIn K (.ref C) == some (.type "type")) = true then PySem.W.subIn K t (.ref C) else none) = some b
  rw [if_pos e]
  exact s
theorem kit_rr {K : PySem.W.Frag} {t : Value} {C : Addr} {b : Bool} (i : PySem.W.isClsIn K C = true) (ty : PySem.W.typeIn K (.ref C) = some (.type "type")) (s : PySem.W.subIn K t (.ref C) = some b) (n : (t == Value.ref C) = false) : PySem.W.kitOne K t (.ref C) = some b := by
  unfold PySem.W.kitOne
  rw [if_neg (by rw [n]; exact Bool.false_ne_true)]
  exact kit_cr i ty s
theorem kit_tr {K : PySem.W.Frag} {n : String} {C : Addr} {b : Bool} (i : PySem.W.isClsIn K C = true) (ty : PySem.W.typeIn K (.ref C) = some (.type "type")) (s : PySem.W.subIn K (.type n) (.ref C) = some b) : PySem.W.kitOne K (.type n) (.ref C) = some b := kit_rr i ty s (beq_eq_false_iff_ne.mpr fun h => by cases h)
theorem kit_rt {K : PySem.W.Frag} {n : String} {C : Addr} {b : Bool} (m : PySem.W.kitMeta n = true) (s : PySem.W.subIn K (.ref C) (.type n) = some b) : PySem.W.kitOne K (.ref C) (.type n) = some b := by
  unfold PySem.W.kitOne
  rw [if_neg (fun h => by have := beq_iff_eq.mp h; cases this)]
  show (if PySem.W.kitMeta n = true then PySem.W.subIn K (.ref C) (.type n) else none) = some b
  rw [if_pos m]
  exact s
theorem exm_ref {K : PySem.W.Frag} {t : Value} {C : Addr} {b : Bool} (e : PySem.W.subIn K (.ref C) (.type "BaseException") = some true) (i : PySem.W.isClsIn K C = true) (ty : PySem.W.typeIn K (.ref C) = some (.type "type")) (s : PySem.W.subIn K t (.ref C) = some b) : PySem.W.exmOne K t (.ref C) = some b := by
  have e1 : (PySem.W.subIn K (.ref C) (.type "BaseException") == some true) = true := by rw [e]; rfl
  show (if (PySem.W.subIn K (.ref C) (.type "BaseException") == some true) = true then PySem.W.kitCls K t (.ref C) else none) = some b
  rw [if_pos e1]
  exact kit_cr i ty s
section
variable {P : Program} {w : World} {K : PySem.W.Frag} {mg : Str → Option Value} {base : Heap} {Z : Ads}
theorem ok_is_small_letter {Z : Ads} {f : Addr} {fd : FuncData}  (F : Fun K "is_small_letter" "is_small_letter" s_is_small_letter f fd)   : FnOk P w K mg base CX0 1 f fd ["sign"] (sp_is_small_letter K) :=
  F.ok sc_is_small_letter (fun vs H Q E h => by revert h; walk_at "len") (fun cdv A outer s H vs Q E hr h => ⟨_, d_is_small_letter (Z := Z)   hr, rd_is_small_letter  h⟩)
theorem ok_is_name {Z : Ads} {f : Addr} {fd : FuncData}  (F : Fun K "is_name" "is_name" s_is_name f fd) (C_is_small_letter : Cal P w K mg base CX0 1 "is_small_letter" ["sign"] [] (sp_is_small_letter K)) (n_all : mg "all" = none) (n_isinstance : mg "isinstance" = none) (n_len : mg "len" = none) (n_str : mg "str" = none) {t_LN : Tok} (m_LONGEST_NAME : mg "LONGEST_NAME" = some (.int 8 t_LN)) {T : Addr} (m_TAKEN_WORDS : mg "TAKEN_WORDS" = some (.ref T)) (hT : ∀ H, SqT K H T (taken.map V.str))  : FnOk P w K mg base CX0 2 f fd ["thing"] (sp_is_name K) :=
  F.ok sc_is_name (fun vs H Q E h => by revert h; walk_at "len") (fun cdv A outer s H vs Q E hr h => ⟨_, d_is_name (Z := Z) (v_LONGEST_NAME := .int 8) (v_TAKEN_WORDS := .ref T) C_is_small_letter m_LONGEST_NAME ⟨t_LN, rfl⟩ m_TAKEN_WORDS rfl n_all n_isinstance n_len n_str hr, rd_is_name hT h⟩)
theorem ok_is_names {Z : Ads} {f : Addr} {fd : FuncData} {dvs : List V} {kws : List (Str × V)} (F : FunD K "is_names" "is_names" (defArgs s_is_names) (defBody s_is_names) (defScope s_is_names) dvs kws f fd) (C_is_name : Cal P w K mg base CX0 2 "is_name" ["thing"] [] (sp_is_name K)) (n_all : mg "all" = none) (n_isinstance : mg "isinstance" = none) (n_len : mg "len" = none) (n_list : mg "list" = none) (n_set : mg "set" = none) (n_tuple : mg "tuple" = none)  : FnOk P w K mg base CX0 3 f fd ["thing", "most"] (sp_is_names K) :=
  F.ok sc_is_names (fun vs H Q E h => by revert h; walk_at "len") (fun cdv A outer s H vs Q E hr h => ⟨_, PSs.nox (d_is_names (Z := Z)  C_is_name n_all n_isinstance n_len n_list n_set n_tuple hr), rd_is_names  h⟩)
theorem ok_wanted_names {Z : Ads} {f : Addr} {fd : FuncData} {dvs : List V} {kws : List (Str × V)} (F : FunD K "wanted_names" "wanted_names" (defArgs s_wanted_names) (defBody s_wanted_names) (defScope s_wanted_names) dvs kws f fd) (C_is_names : Cal P w K mg base CX0 3 "is_names" ["thing", "most"] [] (sp_is_names K)) (n_tuple : mg "tuple" = none)  : FnOk P w K mg base CX0 4 f fd ["thing", "most"] (sp_wanted_names K) :=
  F.ok sc_wanted_names (fun vs H Q E h => by revert h; walk_at "len") (fun cdv A outer s H vs Q E hr h => ⟨_, PSs.nox (d_wanted_names (Z := Z)  C_is_names n_tuple hr), rd_wanted_names  h⟩)
theorem ok_Rule___init__ {Z : Ads} {f : Addr} {fd : FuncData} {dvs : List V} {kws : List (Str × V)} (F : FunD K "__init__" "Rule.__init__" (defArgs s_Rule___init__) (defBody s_Rule___init__) (defScope s_Rule___init__) dvs kws f fd) (C_is_name : Cal P w K mg base CX0 2 "is_name" ["thing"] [] (sp_is_name K)) (C_is_names : Cal P w K mg base CX0 3 "is_names" ["thing", "most"] [] (sp_is_names K)) (X_BadRule : ExC K mg "BadRule" Z.BadRule) (n_tuple : mg "tuple" = none) {t_MB : Tok} (m_MOST_BODY : mg "MOST_BODY" = some (.int 6 t_MB)) {t_MU : Tok} (m_MOST_UNLESS : mg "MOST_UNLESS" = some (.int 4 t_MU)) (R : RuleC K Z.Rule) : FnOk P w K mg base (L2.CX P w) 4 f fd ["self", "head", "body", "unless"] (sp_Rule___init__ K Z) :=
  F.ok sc_Rule___init__ (fun vs H Q E h => by revert h; walk_at "len") (fun cdv A outer s H vs Q E hr h => ⟨_, d_Rule___init__ (Z := Z) (v_MOST_BODY := .int 6) (v_MOST_UNLESS := .int 4) C_is_name C_is_names X_BadRule m_MOST_BODY ⟨t_MB, rfl⟩ m_MOST_UNLESS ⟨t_MU, rfl⟩ n_tuple hr, rd_Rule___init__ R h⟩)
theorem ok_Rule_told {Z : Ads} {f : Addr} {fd : FuncData}  (F : Fun K "told" "Rule.told" s_Rule_told f fd)  (R : RuleC K Z.Rule) : FnOk P w K mg base CX0 1 f fd ["self"] (sp_Rule_told K Z) :=
  F.ok sc_Rule_told (fun vs H Q E h => by revert h; walk_at "len") (fun cdv A outer s H vs Q E hr h => ⟨_, d_Rule_told (Z := Z)   hr, rd_Rule_told R h⟩)
theorem ok_names_in {Z : Ads} {f : Addr} {fd : FuncData} {dvs : List V} {kws : List (Str × V)} (F : FunD K "names_in" "names_in" (defArgs s_names_in) (defBody s_names_in) (defScope s_names_in) dvs kws f fd) (n_sorted : mg "sorted" = none) (R : RuleC K Z.Rule) : FnOk P w K mg base CX0 1 f fd ["rules", "more"] (sp_names_in K Z) :=
  F.ok sc_names_in (fun vs H Q E h => by revert h; walk_at "len") (fun cdv A outer s H vs Q E hr h => ⟨_, PSs.nox (d_names_in (Z := Z)  n_sorted hr), rd_names_in R h⟩)
theorem ok_is_base {Z : Ads} {f : Addr} {fd : FuncData}  (F : Fun K "is_base" "is_base" s_is_base f fd) (C_names_in_1 : Cal P w K mg base CX0 1 "names_in" ["rules", "more"] [.ref Z.Desk] (sp_names_in K Z)) (c_Rule : mg "Rule" = some (.ref Z.Rule)) (n_all : mg "all" = none) (n_isinstance : mg "isinstance" = none) (n_len : mg "len" = none) (n_list : mg "list" = none) (n_tuple : mg "tuple" = none) {t_MNS : Tok} (m_MOST_NAMES : mg "MOST_NAMES" = some (.int 24 t_MNS)) {t_MR : Tok} (m_MOST_RULES : mg "MOST_RULES" = some (.int 40 t_MR)) (R : RuleC K Z.Rule) (hM : ∀ H, SqT K H Z.Desk []) : FnOk P w K mg base CX0 2 f fd ["thing"] (sp_is_base K Z) :=
  F.ok sc_is_base (fun vs H Q E h => by revert h; walk_at "len") (fun cdv A outer s H vs Q E hr h => ⟨_, d_is_base (Z := Z) (v_MOST_NAMES := .int 24) (v_MOST_RULES := .int 40) C_names_in_1 c_Rule m_MOST_NAMES ⟨t_MNS, rfl⟩ m_MOST_RULES ⟨t_MR, rfl⟩ n_all n_isinstance n_len n_list n_tuple hr, rd_is_base R hM h⟩)
theorem ok_wanted_base {Z : Ads} {f : Addr} {fd : FuncData}  (F : Fun K "wanted_base" "wanted_base" s_wanted_base f fd) (C_is_base : Cal P w K mg base CX0 2 "is_base" ["thing"] [] (sp_is_base K Z)) (n_list : mg "list" = none)  : FnOk P w K mg base CX0 3 f fd ["thing"] (sp_wanted_base K Z) :=
  F.ok sc_wanted_base (fun vs H Q E h => by revert h; walk_at "len") (fun cdv A outer s H vs Q E hr h => ⟨_, d_wanted_base (Z := Z)  C_is_base n_list hr, rd_wanted_base  h⟩)
theorem ok_wanted_plain {Z : Ads} {f : Addr} {fd : FuncData}  (F : Fun K "wanted_plain" "wanted_plain" s_wanted_plain f fd) (C_wanted_base : Cal P w K mg base CX0 3 "wanted_base" ["thing"] [] (sp_wanted_base K Z)) (n_any : mg "any" = none) (R : RuleC K Z.Rule) : FnOk P w K mg base CX0 4 f fd ["thing"] (sp_wanted_plain K Z) :=
  F.ok sc_wanted_plain (fun vs H Q E h => by revert h; walk_at "len") (fun cdv A outer s H vs Q E hr h => ⟨_, d_wanted_plain (Z := Z)  C_wanted_base n_any hr, rd_wanted_plain R h⟩)
theorem ok_wanted_beside {Z : Ads} {f : Addr} {fd : FuncData} {dvs : List V} {kws : List (Str × V)} (F : FunD K "wanted_beside" "wanted_beside" (defArgs s_wanted_beside) (defBody s_wanted_beside) (defScope s_wanted_beside) dvs kws f fd) (C_names_in : Cal P w K mg base CX0 1 "names_in" ["rules", "more"] [] (sp_names_in K Z)) (C_wanted_names : Cal P w K mg base CX0 4 "wanted_names" ["thing", "most"] [] (sp_wanted_names K)) (n_len : mg "len" = none) {t_MNS : Tok} (m_MOST_NAMES : mg "MOST_NAMES" = some (.int 24 t_MNS))  : FnOk P w K mg base CX0 5 f fd ["thing", "rules", "most"] (sp_wanted_beside K Z) :=
  F.ok sc_wanted_beside (fun vs H Q E h => by revert h; walk_at "len") (fun cdv A outer s H vs Q E hr h => ⟨_, PSs.nox (d_wanted_beside (Z := Z) (v_MOST_NAMES := .int 24) C_names_in C_wanted_names m_MOST_NAMES ⟨t_MNS, rfl⟩ n_len hr), rd_wanted_beside  h⟩)
theorem ok_wanted {Z : Ads} {f : Addr} {fd : FuncData}  (F : Fun K "wanted" "wanted" s_wanted f fd) (C_wanted_beside_2 : Cal P w K mg base CX0 5 "wanted_beside" ["thing", "rules", "most"] [.int 24] (sp_wanted_beside K Z)) (C_wanted_plain : Cal P w K mg base CX0 4 "wanted_plain" ["thing"] [] (sp_wanted_plain K Z))  : FnOk P w K mg base CX0 6 f fd ["rules", "grounds"] (sp_wanted K Z) :=
  F.ok sc_wanted (fun vs H Q E h => by revert h; walk_at "len") (fun cdv A outer s H vs Q E hr h => ⟨_, d_wanted (Z := Z)  C_wanted_beside_2 C_wanted_plain hr, rd_wanted  h⟩)
theorem ok_has_all {Z : Ads} {f : Addr} {fd : FuncData}  (F : Fun K "has_all" "has_all" s_has_all f fd) (n_all : mg "all" = none)  : FnOk P w K mg base CX0 1 f fd ["there", "names"] (sp_has_all K) :=
  F.ok sc_has_all (fun vs H Q E h => by revert h; walk_at "len") (fun cdv A outer s H vs Q E hr h => ⟨_, d_has_all (Z := Z)  n_all hr, rd_has_all  h⟩)
theorem ok_next_heads {Z : Ads} {f : Addr} {fd : FuncData}  (F : Fun K "next_heads" "next_heads" s_next_heads f fd) (C_has_all : Cal P w K mg base CX0 1 "has_all" ["there", "names"] [] (sp_has_all K)) (R : RuleC K Z.Rule) : FnOk P w K mg base CX0 2 f fd ["rules", "there"] (sp_next_heads K Z) :=
  F.ok sc_next_heads (fun vs H Q E h => by revert h; walk_at "len") (fun cdv A outer s H vs Q E hr h => ⟨_, d_next_heads (Z := Z)  C_has_all hr, rd_next_heads R h⟩)
theorem ok_rounds {Z : Ads} {f : Addr} {fd : FuncData}  (F : Fun K "rounds" "rounds" s_rounds f fd) (C_next_heads : Cal P w K mg base CX0 2 "next_heads" ["rules", "there"] [] (sp_next_heads K Z))  : FnOk P w K mg base CX0 3 f fd ["rules", "grounds"] (sp_rounds K Z) :=
  F.ok sc_rounds (fun vs H Q E h => by revert h; walk_at "len") (fun cdv A outer s H vs Q E hr h => ⟨_, d_rounds (Z := Z)  C_next_heads hr, rd_rounds  h⟩)
theorem ok_first_never {Z : Ads} {f : Addr} {fd : FuncData}  (F : Fun K "first_never" "first_never" s_first_never f fd) (C_has_all : Cal P w K mg base CX0 1 "has_all" ["there", "names"] [] (sp_has_all K)) (n_enumerate : mg "enumerate" = none) (R : RuleC K Z.Rule) : FnOk P w K mg base CX0 2 f fd ["rules", "there"] (sp_first_never K Z) :=
  F.ok sc_first_never (fun vs H Q E h => by revert h; walk_at "len") (fun cdv A outer s H vs Q E hr h => ⟨_, d_first_never (Z := Z)  C_has_all n_enumerate hr, rd_first_never R h⟩)
theorem ok_held {Z : Ads} {f : Addr} {fd : FuncData}  (F : Fun K "held" "held" s_held f fd) (C_rounds : Cal P w K mg base CX0 3 "rounds" ["rules", "grounds"] [] (sp_rounds K Z)) (C_wanted : Cal P w K mg base CX0 6 "wanted" ["rules", "grounds"] [] (sp_wanted K Z)) (n_sorted : mg "sorted" = none)  : FnOk P w K mg base CX0 7 f fd ["rules", "grounds"] (sp_held K Z) :=
  F.ok sc_held (fun vs H Q E h => by revert h; walk_at "len") (fun cdv A outer s H vs Q E hr h => ⟨_, d_held (Z := Z)  C_rounds C_wanted n_sorted hr, rd_held  h⟩)
theorem ok_clash {Z : Ads} {f : Addr} {fd : FuncData}  (F : Fun K "clash" "clash" s_clash f fd) (C_first_never : Cal P w K mg base CX0 2 "first_never" ["rules", "there"] [] (sp_first_never K Z)) (C_rounds : Cal P w K mg base CX0 3 "rounds" ["rules", "grounds"] [] (sp_rounds K Z)) (C_wanted : Cal P w K mg base CX0 6 "wanted" ["rules", "grounds"] [] (sp_wanted K Z))  : FnOk P w K mg base CX0 7 f fd ["rules", "grounds"] (sp_clash K Z) :=
  F.ok sc_clash (fun vs H Q E h => by revert h; walk_at "len") (fun cdv A outer s H vs Q E hr h => ⟨_, d_clash (Z := Z)  C_first_never C_rounds C_wanted hr, rd_clash  h⟩)
theorem ok__law_begun {Z : Ads} {f : Addr} {fd : FuncData}  (F : Fun K "_law_begun" "_law_begun" s__law_begun f fd)   : FnOk P w K mg base CX0 1 f fd ["script"] (sp__law_begun P w K) :=
  beg_view (F.ok sc__law_begun (fun vs H Q E h => by revert h; walk_at "len") (fun cdv A outer s H vs Q E hr h => ⟨_, d__law_begun (Z := Z)   hr, rd__law_begun  h⟩)) rfl
theorem ok__law_take {Z : Ads} {f : Addr} {fd : FuncData}  (F : Fun K "_law_take" "_law_take" s__law_take f fd) (n_len : mg "len" = none)  : FnOk P w K mg base CX0 1 f fd ["state", "many"] (sp__law_take P w K) :=
  tak_view (F.ok sc__law_take (fun vs H Q E h => by revert h; walk_at "len") (fun cdv A outer s H vs Q E hr h => ⟨_, d__law_take (Z := Z)  n_len hr, rd__law_take  h⟩)) rfl
theorem ok__law_kept {Z : Ads} {f : Addr} {fd : FuncData}  (F : Fun K "_law_kept" "_law_kept" s__law_kept f fd)   : FnOk P w K mg base CX0 1 f fd [] (sp__law_kept K) :=
  F.ok sc__law_kept (fun vs H Q E h => by revert h; walk_at "len") (fun cdv A outer s H vs Q E hr h => ⟨_, d__law_kept (Z := Z)   hr, rd__law_kept  h⟩)
theorem ok__law_name {Z : Ads} {f : Addr} {fd : FuncData}  (F : Fun K "_law_name" "_law_name" s__law_name f fd) (C__law_take : Cal P w K mg base CX0 1 "_law_take" ["state", "many"] [] (sp__law_take P w K)) (n_len : mg "len" = none) (n_range : mg "range" = none)  : FnOk P w K mg base CX0 2 f fd ["state", "used"] (sp__law_name P w K) :=
  F.ok sc__law_name (fun vs H Q E h => by revert h; walk_at "len") (fun cdv A outer s H vs Q E hr h => ⟨_, d__law_name (Z := Z)  C__law_take n_len n_range hr, rd__law_name  h⟩)
theorem ok__law_names {Z : Ads} {f : Addr} {fd : FuncData}  (F : Fun K "_law_names" "_law_names" s__law_names f fd) (C__law_name : Cal P w K mg base CX0 2 "_law_name" ["state", "used"] [] (sp__law_name P w K)) (n_range : mg "range" = none)  : FnOk P w K mg base CX0 3 f fd ["state", "used", "many"] (sp__law_names P w K) :=
  F.ok sc__law_names (fun vs H Q E h => by revert h; walk_at "len") (fun cdv A outer s H vs Q E hr h => ⟨_, d__law_names (Z := Z)  C__law_name n_range hr, rd__law_names  h⟩)
theorem ok__law_pair {Z : Ads} {f : Addr} {fd : FuncData}  (F : Fun K "_law_pair" "_law_pair" s__law_pair f fd) (C__law_take : Cal P w K mg base CX0 1 "_law_take" ["state", "many"] [] (sp__law_take P w K)) (n_len : mg "len" = none) (n_list : mg "list" = none) (n_min : mg "min" = none) (n_range : mg "range" = none) (n_tuple : mg "tuple" = none)  : FnOk P w K mg base CX0 2 f fd ["state", "names"] (sp__law_pair P w K) :=
  F.ok sc__law_pair (fun vs H Q E h => by revert h; walk_at "len") (fun cdv A outer s H vs Q E hr h => ⟨_, d__law_pair (Z := Z)  C__law_take n_len n_list n_min n_range n_tuple hr, rd__law_pair  h⟩)
theorem ok__law_pairs {Z : Ads} {f : Addr} {fd : FuncData}  (F : Fun K "_law_pairs" "_law_pairs" s__law_pairs f fd) (C__law_pair : Cal P w K mg base CX0 2 "_law_pair" ["state", "names"] [] (sp__law_pair P w K)) (C__law_take : Cal P w K mg base CX0 1 "_law_take" ["state", "many"] [] (sp__law_take P w K)) (n_range : mg "range" = none)  : FnOk P w K mg base CX0 3 f fd ["state", "names", "most"] (sp__law_pairs P w K) :=
  F.ok sc__law_pairs (fun vs H Q E h => by revert h; walk_at "len") (fun cdv A outer s H vs Q E hr h => ⟨_, d__law_pairs (Z := Z)  C__law_pair C__law_take n_range hr, rd__law_pairs  h⟩)
theorem ok__law_some {Z : Ads} {f : Addr} {fd : FuncData}  (F : Fun K "_law_some" "_law_some" s__law_some f fd) (C__law_take : Cal P w K mg base CX0 1 "_law_take" ["state", "many"] [] (sp__law_take P w K)) (n_len : mg "len" = none) (n_list : mg "list" = none) (n_range : mg "range" = none)  : FnOk P w K mg base CX0 2 f fd ["state", "names"] (sp__law_some P w K) :=
  F.ok sc__law_some (fun vs H Q E h => by revert h; walk_at "len") (fun cdv A outer s H vs Q E hr h => ⟨_, d__law_some (Z := Z)  C__law_take n_len n_list n_range hr, rd__law_some  h⟩)
theorem ok__law_held {Z : Ads} {f : Addr} {fd : FuncData}  (F : Fun K "_law_held" "_law_held" s__law_held f fd) (n_len : mg "len" = none) (n_list : mg "list" = none)  : FnOk P w K mg base CX0 1 f fd ["pairs", "some"] (sp__law_held K) :=
  F.ok sc__law_held (fun vs H Q E h => by revert h; walk_at "len") (fun cdv A outer s H vs Q E hr h => ⟨_, d__law_held (Z := Z)  n_len n_list hr, rd__law_held  h⟩)
theorem ok__law_same0 {Z : Ads} {f : Addr} {fd : FuncData}  (F : Fun K "_law_same" "_law_same" s__law_same0 f fd) (n_bool : mg "bool" = none) (n_int : mg "int" = none) (n_isinstance : mg "isinstance" = none) (n_len : mg "len" = none) (n_list : mg "list" = none) (n_str : mg "str" = none) (n_tuple : mg "tuple" = none)  : FnOk P w K mg base CX0 1 f fd ["found", "due"] (sp__law_same0 K) :=
  F.ok sc__law_same0 (fun vs H Q E h => by revert h; walk_at "len") (fun cdv A outer s H vs Q E hr h => ⟨_, d__law_same0 (Z := Z)  n_bool n_int n_isinstance n_len n_list n_str n_tuple hr, rd__law_same0  h⟩)
theorem ok__law_same {Z : Ads} {f : Addr} {fd : FuncData}  (F : Fun K "_law_same" "_law_same" s__law_same f fd) (C__law_same0 : Cal P w K mg base CX0 1 "_law_same" ["found", "due"] [] (sp__law_same0 K)) (n_all : mg "all" = none) (n_bool : mg "bool" = none) (n_int : mg "int" = none) (n_isinstance : mg "isinstance" = none) (n_len : mg "len" = none) (n_list : mg "list" = none) (n_str : mg "str" = none) (n_tuple : mg "tuple" = none) (n_zip : mg "zip" = none)  : FnOk P w K mg base CX0 2 f fd ["found", "due"] (sp__law_same K) :=
  F.ok sc__law_same (fun vs H Q E h => by revert h; walk_at "len") (fun cdv A outer s H vs Q E hr h => ⟨_, d__law_same (Z := Z)  C__law_same0 n_all n_bool n_int n_isinstance n_len n_list n_str n_tuple n_zip hr, rd__law_same  h⟩)
theorem ok__law_clash {Z : Ads} {f : Addr} {fd : FuncData}  (F : Fun K "_law_clash" "_law_clash" s__law_clash f fd)   : FnOk P w K mg base CX0 1 f fd ["pairs", "names"] (sp__law_clash K) :=
  F.ok sc__law_clash (fun vs H Q E h => by revert h; walk_at "len") (fun cdv A outer s H vs Q E hr h => ⟨_, d__law_clash (Z := Z)   hr, rd__law_clash  h⟩)
theorem ok__law_turned {Z : Ads} {f : Addr} {fd : FuncData}  (F : Fun K "_law_turned" "_law_turned" s__law_turned f fd) (C__law_take : Cal P w K mg base CX0 1 "_law_take" ["state", "many"] [] (sp__law_take P w K)) (n_len : mg "len" = none) (n_range : mg "range" = none)  : FnOk P w K mg base CX0 2 f fd ["state", "pairs"] (sp__law_turned P w K) :=
  F.ok sc__law_turned (fun vs H Q E h => by revert h; walk_at "len") (fun cdv A outer s H vs Q E hr h => ⟨_, d__law_turned (Z := Z)  C__law_take n_len n_range hr, rd__law_turned  h⟩)
theorem ok__law_right {Z : Ads} {f : Addr} {fd : FuncData}  (F : Fun K "_law_right" "_law_right" s__law_right f fd) (C__law_clash : Cal P w K mg base CX0 1 "_law_clash" ["pairs", "names"] [] (sp__law_clash K)) (C__law_held : Cal P w K mg base CX0 1 "_law_held" ["pairs", "some"] [] (sp__law_held K)) (C__law_same : Cal P w K mg base CX0 2 "_law_same" ["found", "due"] [] (sp__law_same K)) (C_clash : Cal P w K mg base CX0 7 "clash" ["rules", "grounds"] [] (sp_clash K Z)) (C_held : Cal P w K mg base CX0 7 "held" ["rules", "grounds"] [] (sp_held K Z)) (C_clash_k_rules_grounds : CalK P w K mg base CX0 7 "clash" ["rules", "grounds"] ["rules", "grounds"] (kwAll) (sp_clash K Z)) (C_held_k_grounds_rules : CalK P w K mg base CX0 7 "held" ["rules", "grounds"] ["grounds", "rules"] (fun vs zs => vs ++ zs.reverse) (sp_held K Z)) (M_Rule_2 : Ctor P w K mg base (L2.CX P w) 4 "Rule" Z.Rule 2 [] (g_Rule_2 Z) (sp_Rule___init__ K Z)) (T_Rule_told : Met P w K mg base CX0 1 Z.Rule "told" (sp_Rule_told K Z)) (n_list : mg "list" = none) (n_sorted : mg "sorted" = none) (n_tuple : mg "tuple" = none) (R : RuleC K Z.Rule) (hU : ∀ H, SqT K H Z.dU []) : FnOk P w K mg base CX0 8 f fd ["pairs", "some"] (sp__law_right K Z) :=
  F.ok sc__law_right (fun vs H Q E h => by revert h; walk_at "len") (fun cdv A outer s H vs Q E hr h => ⟨_, d__law_right (Z := Z)  C__law_clash C__law_held C__law_same C_clash C_held C_clash_k_rules_grounds C_held_k_grounds_rules M_Rule_2 T_Rule_told n_list n_sorted n_tuple hr, rd__law_right R hU h⟩)
theorem ok_law {Z : Ads} {f : Addr} {fd : FuncData}  (F : Fun K "law" "law" s_law f fd) (C__law_begun : Cal P w K mg base CX0 1 "_law_begun" ["script"] [] (sp__law_begun P w K)) (C__law_kept : Cal P w K mg base CX0 1 "_law_kept" [] [] (sp__law_kept K)) (C__law_names : Cal P w K mg base CX0 3 "_law_names" ["state", "used", "many"] [] (sp__law_names P w K)) (C__law_pairs : Cal P w K mg base CX0 3 "_law_pairs" ["state", "names", "most"] [] (sp__law_pairs P w K)) (C__law_right : Cal P w K mg base CX0 8 "_law_right" ["pairs", "some"] [] (sp__law_right K Z)) (C__law_some : Cal P w K mg base CX0 2 "_law_some" ["state", "names"] [] (sp__law_some P w K)) (C__law_take : Cal P w K mg base CX0 1 "_law_take" ["state", "many"] [] (sp__law_take P w K)) (C__law_turned : Cal P w K mg base CX0 2 "_law_turned" ["state", "pairs"] [] (sp__law_turned P w K)) (C_clash : Cal P w K mg base CX0 7 "clash" ["rules", "grounds"] [] (sp_clash K Z)) (M_Rule_2 : Ctor P w K mg base (L2.CX P w) 4 "Rule" Z.Rule 2 [] (g_Rule_2 Z) (sp_Rule___init__ K Z)) (n_bool : mg "bool" = none) (n_isinstance : mg "isinstance" = none) (R : RuleC K Z.Rule) (hU : ∀ H, SqT K H Z.dU []) : FnOk P w K mg base CX0 9 f fd ["script"] (sp_law P w K Z) :=
  F.ok sc_law (fun vs H Q E h => by revert h; walk_at "len") (fun cdv A outer s H vs Q E hr h => ⟨_, d_law (Z := Z)  C__law_begun C__law_kept C__law_names C__law_pairs C__law_right C__law_some C__law_take C__law_turned C_clash M_Rule_2 n_bool n_isinstance hr, rd_law R hU h⟩)
end
theorem all_mk {l : PySem.W.OpenLaw} {w : World} {K : PySem.W.Frag} {h : Heap} {mg : Str → Option Value} {fa : Addr} (X : K.In h) (G : h.Ns mainGlobals mg) (hfa : mg "law" = some (.ref fa))
    {c_BadRule : Addr}
    {c_Rule : Addr}
    {f_is_small_letter : Addr} {od_is_small_letter an_is_small_letter : Option Addr} {sl_is_small_letter : Array (Option Value)} {oc_is_small_letter kV_is_small_letter dc_is_small_letter pm_is_small_letter cd_is_small_letter ct_is_small_letter : Value}
    {f_is_name : Addr} {od_is_name an_is_name : Option Addr} {sl_is_name : Array (Option Value)} {oc_is_name kV_is_name dc_is_name pm_is_name cd_is_name ct_is_name : Value}
    {f_is_names : Addr} {od_is_names an_is_names : Option Addr} {sl_is_names : Array (Option Value)} {oc_is_names kV_is_names dc_is_names pm_is_names cd_is_names ct_is_names : Value}
    {T_is_names : Addr} {to_is_names : Value} {td_is_names : Option Addr} {tn_is_names : Nat} {ts_is_names : Array (Option Value)} {t_MN : Tok}
    {f_wanted_names : Addr} {od_wanted_names an_wanted_names : Option Addr} {sl_wanted_names : Array (Option Value)} {oc_wanted_names kV_wanted_names dc_wanted_names pm_wanted_names cd_wanted_names ct_wanted_names : Value}
    {T_wanted_names : Addr} {to_wanted_names : Value} {td_wanted_names : Option Addr} {tn_wanted_names : Nat} {ts_wanted_names : Array (Option Value)} {t_WN : Tok}
    {f_Rule___init__ : Addr} {od_Rule___init__ an_Rule___init__ : Option Addr} {sl_Rule___init__ : Array (Option Value)} {oc_Rule___init__ dc_Rule___init__ pm_Rule___init__ cd_Rule___init__ ct_Rule___init__ : Value}
    {T_Rule___init__ : Addr} {to_Rule___init__ : Value} {td_Rule___init__ : Option Addr} {tn_Rule___init__ : Nat} {ts_Rule___init__ : Array (Option Value)} {dB : Addr}
    {D_Rule___init__ : Addr}
    {f_Rule_told : Addr} {od_Rule_told an_Rule_told : Option Addr} {sl_Rule_told : Array (Option Value)} {oc_Rule_told kV_Rule_told dc_Rule_told pm_Rule_told cd_Rule_told ct_Rule_told : Value}
    {f_names_in : Addr} {od_names_in an_names_in : Option Addr} {sl_names_in : Array (Option Value)} {oc_names_in kV_names_in dc_names_in pm_names_in cd_names_in ct_names_in : Value}
    {T_names_in : Addr} {to_names_in : Value} {td_names_in : Option Addr} {tn_names_in : Nat} {ts_names_in : Array (Option Value)} {dM : Addr}
    {f_is_base : Addr} {od_is_base an_is_base : Option Addr} {sl_is_base : Array (Option Value)} {oc_is_base kV_is_base dc_is_base pm_is_base cd_is_base ct_is_base : Value}
    {f_wanted_base : Addr} {od_wanted_base an_wanted_base : Option Addr} {sl_wanted_base : Array (Option Value)} {oc_wanted_base kV_wanted_base dc_wanted_base pm_wanted_base cd_wanted_base ct_wanted_base : Value}
    {f_wanted_plain : Addr} {od_wanted_plain an_wanted_plain : Option Addr} {sl_wanted_plain : Array (Option Value)} {oc_wanted_plain kV_wanted_plain dc_wanted_plain pm_wanted_plain cd_wanted_plain ct_wanted_plain : Value}
    {f_wanted_beside : Addr} {od_wanted_beside an_wanted_beside : Option Addr} {sl_wanted_beside : Array (Option Value)} {oc_wanted_beside kV_wanted_beside dc_wanted_beside pm_wanted_beside cd_wanted_beside ct_wanted_beside : Value}
    {T_wanted_beside : Addr} {to_wanted_beside : Value} {td_wanted_beside : Option Addr} {tn_wanted_beside : Nat} {ts_wanted_beside : Array (Option Value)} {t_WB : Tok}
    {f_wanted : Addr} {od_wanted an_wanted : Option Addr} {sl_wanted : Array (Option Value)} {oc_wanted kV_wanted dc_wanted pm_wanted cd_wanted ct_wanted : Value}
    {f_has_all : Addr} {od_has_all an_has_all : Option Addr} {sl_has_all : Array (Option Value)} {oc_has_all kV_has_all dc_has_all pm_has_all cd_has_all ct_has_all : Value}
    {f_next_heads : Addr} {od_next_heads an_next_heads : Option Addr} {sl_next_heads : Array (Option Value)} {oc_next_heads kV_next_heads dc_next_heads pm_next_heads cd_next_heads ct_next_heads : Value}
    {f_rounds : Addr} {od_rounds an_rounds : Option Addr} {sl_rounds : Array (Option Value)} {oc_rounds kV_rounds dc_rounds pm_rounds cd_rounds ct_rounds : Value}
    {f_first_never : Addr} {od_first_never an_first_never : Option Addr} {sl_first_never : Array (Option Value)} {oc_first_never kV_first_never dc_first_never pm_first_never cd_first_never ct_first_never : Value}
    {f_held : Addr} {od_held an_held : Option Addr} {sl_held : Array (Option Value)} {oc_held kV_held dc_held pm_held cd_held ct_held : Value}
    {f_clash : Addr} {od_clash an_clash : Option Addr} {sl_clash : Array (Option Value)} {oc_clash kV_clash dc_clash pm_clash cd_clash ct_clash : Value}
    {f__law_begun : Addr} {od__law_begun an__law_begun : Option Addr} {sl__law_begun : Array (Option Value)} {oc__law_begun kV__law_begun dc__law_begun pm__law_begun cd__law_begun ct__law_begun : Value}
    {f__law_take : Addr} {od__law_take an__law_take : Option Addr} {sl__law_take : Array (Option Value)} {oc__law_take kV__law_take dc__law_take pm__law_take cd__law_take ct__law_take : Value}
    {f__law_kept : Addr} {od__law_kept an__law_kept : Option Addr} {sl__law_kept : Array (Option Value)} {oc__law_kept kV__law_kept dc__law_kept pm__law_kept cd__law_kept ct__law_kept : Value}
    {f__law_name : Addr} {od__law_name an__law_name : Option Addr} {sl__law_name : Array (Option Value)} {oc__law_name kV__law_name dc__law_name pm__law_name cd__law_name ct__law_name : Value}
    {f__law_names : Addr} {od__law_names an__law_names : Option Addr} {sl__law_names : Array (Option Value)} {oc__law_names kV__law_names dc__law_names pm__law_names cd__law_names ct__law_names : Value}
    {f__law_pair : Addr} {od__law_pair an__law_pair : Option Addr} {sl__law_pair : Array (Option Value)} {oc__law_pair kV__law_pair dc__law_pair pm__law_pair cd__law_pair ct__law_pair : Value}
    {f__law_pairs : Addr} {od__law_pairs an__law_pairs : Option Addr} {sl__law_pairs : Array (Option Value)} {oc__law_pairs kV__law_pairs dc__law_pairs pm__law_pairs cd__law_pairs ct__law_pairs : Value}
    {f__law_some : Addr} {od__law_some an__law_some : Option Addr} {sl__law_some : Array (Option Value)} {oc__law_some kV__law_some dc__law_some pm__law_some cd__law_some ct__law_some : Value}
    {f__law_held : Addr} {od__law_held an__law_held : Option Addr} {sl__law_held : Array (Option Value)} {oc__law_held kV__law_held dc__law_held pm__law_held cd__law_held ct__law_held : Value}
    {f__law_same0 : Addr} {od__law_same0 an__law_same0 : Option Addr} {sl__law_same0 : Array (Option Value)} {oc__law_same0 kV__law_same0 dc__law_same0 pm__law_same0 cd__law_same0 ct__law_same0 : Value}
    {f__law_same : Addr} {od__law_same an__law_same : Option Addr} {sl__law_same : Array (Option Value)} {oc__law_same kV__law_same dc__law_same pm__law_same cd__law_same ct__law_same : Value}
    {f__law_clash : Addr} {od__law_clash an__law_clash : Option Addr} {sl__law_clash : Array (Option Value)} {oc__law_clash kV__law_clash dc__law_clash pm__law_clash cd__law_clash ct__law_clash : Value}
    {f__law_turned : Addr} {od__law_turned an__law_turned : Option Addr} {sl__law_turned : Array (Option Value)} {oc__law_turned kV__law_turned dc__law_turned pm__law_turned cd__law_turned ct__law_turned : Value}
    {f__law_right : Addr} {od__law_right an__law_right : Option Addr} {sl__law_right : Array (Option Value)} {oc__law_right kV__law_right dc__law_right pm__law_right cd__law_right ct__law_right : Value}
    {f_law : Addr} {od_law an_law : Option Addr} {sl_law : Array (Option Value)} {oc_law kV_law dc_law pm_law cd_law ct_law : Value}
    (a_BadRule : PySem.W.nsIn K mainGlobals "BadRule" = some (some (.ref c_BadRule)))
    (a_Rule : PySem.W.nsIn K mainGlobals "Rule" = some (some (.ref c_Rule)))
    (a_is_small_letter : PySem.W.nsIn K mainGlobals "is_small_letter" = some (some (.ref f_is_small_letter)))
    (l_is_small_letter : K.lookup f_is_small_letter = some ⟨oc_is_small_letter, od_is_small_letter, .func (PySem.W.fnOf "is_small_letter" "is_small_letter" (defArgs s_is_small_letter) (defBody s_is_small_letter) (defScope s_is_small_letter) .none kV_is_small_letter dc_is_small_letter pm_is_small_letter an_is_small_letter cd_is_small_letter ct_is_small_letter), sl_is_small_letter⟩)
    (c_is_small_letter : PySem.W.codeIn K cd_is_small_letter "is_small_letter" = true)
    (k_is_small_letter : PySem.W.keepIn K (.ref f_is_small_letter) = true)
    (a_is_name : PySem.W.nsIn K mainGlobals "is_name" = some (some (.ref f_is_name)))
    (l_is_name : K.lookup f_is_name = some ⟨oc_is_name, od_is_name, .func (PySem.W.fnOf "is_name" "is_name" (defArgs s_is_name) (defBody s_is_name) (defScope s_is_name) .none kV_is_name dc_is_name pm_is_name an_is_name cd_is_name ct_is_name), sl_is_name⟩)
    (c_is_name : PySem.W.codeIn K cd_is_name "is_name" = true)
    (k_is_name : PySem.W.keepIn K (.ref f_is_name) = true)
    (a_is_names : PySem.W.nsIn K mainGlobals "is_names" = some (some (.ref f_is_names)))
    (l_is_names : K.lookup f_is_names = some ⟨oc_is_names, od_is_names, .func (PySem.W.fnOf "is_names" "is_names" (defArgs s_is_names) (defBody s_is_names) (defScope s_is_names) (.ref T_is_names) kV_is_names dc_is_names pm_is_names an_is_names cd_is_names ct_is_names), sl_is_names⟩)
    (c_is_names : PySem.W.codeIn K cd_is_names "is_names" = true)
    (k_is_names : PySem.W.keepIn K (.ref f_is_names) = true)
    (lT_is_names : K.lookup T_is_names = some ⟨to_is_names, td_is_names, .seq #[.int 24 t_MN] tn_is_names, ts_is_names⟩)
    (a_wanted_names : PySem.W.nsIn K mainGlobals "wanted_names" = some (some (.ref f_wanted_names)))
    (l_wanted_names : K.lookup f_wanted_names = some ⟨oc_wanted_names, od_wanted_names, .func (PySem.W.fnOf "wanted_names" "wanted_names" (defArgs s_wanted_names) (defBody s_wanted_names) (defScope s_wanted_names) (.ref T_wanted_names) kV_wanted_names dc_wanted_names pm_wanted_names an_wanted_names cd_wanted_names ct_wanted_names), sl_wanted_names⟩)
    (c_wanted_names : PySem.W.codeIn K cd_wanted_names "wanted_names" = true)
    (k_wanted_names : PySem.W.keepIn K (.ref f_wanted_names) = true)
    (lT_wanted_names : K.lookup T_wanted_names = some ⟨to_wanted_names, td_wanted_names, .seq #[.int 24 t_WN] tn_wanted_names, ts_wanted_names⟩)
    (a_Rule___init__ : PySem.W.findIn K (.ref c_Rule) "__init__" = some (some (.ref f_Rule___init__)))
    (i_Rule___init__ : PySem.W.isFn K (.ref f_Rule___init__) = true)
    (l_Rule___init__ : K.lookup f_Rule___init__ = some ⟨oc_Rule___init__, od_Rule___init__, .func (PySem.W.fnOf "__init__" "Rule.__init__" (defArgs s_Rule___init__) (defBody s_Rule___init__) (defScope s_Rule___init__) (.ref T_Rule___init__) (.ref D_Rule___init__) dc_Rule___init__ pm_Rule___init__ an_Rule___init__ cd_Rule___init__ ct_Rule___init__), sl_Rule___init__⟩)
    (c_Rule___init__ : PySem.W.codeIn K cd_Rule___init__ "Rule.__init__" = true)
    (k_Rule___init__ : PySem.W.keepIn K (.ref f_Rule___init__) = true)
    (lT_Rule___init__ : K.lookup T_Rule___init__ = some ⟨to_Rule___init__, td_Rule___init__, .seq #[.ref dB] tn_Rule___init__, ts_Rule___init__⟩)
    (nD_Rule___init___unless : PySem.W.nsIn K D_Rule___init__ "unless" = some (some (.ref dU)))
    (a_Rule_told : PySem.W.findIn K (.ref c_Rule) "told" = some (some (.ref f_Rule_told)))
    (i_Rule_told : PySem.W.isFn K (.ref f_Rule_told) = true)
    (l_Rule_told : K.lookup f_Rule_told = some ⟨oc_Rule_told, od_Rule_told, .func (PySem.W.fnOf "told" "Rule.told" (defArgs s_Rule_told) (defBody s_Rule_told) (defScope s_Rule_told) .none kV_Rule_told dc_Rule_told pm_Rule_told an_Rule_told cd_Rule_told ct_Rule_told), sl_Rule_told⟩)
    (c_Rule_told : PySem.W.codeIn K cd_Rule_told "Rule.told" = true)
    (k_Rule_told : PySem.W.keepIn K (.ref f_Rule_told) = true)
    (a_names_in : PySem.W.nsIn K mainGlobals "names_in" = some (some (.ref f_names_in)))
    (l_names_in : K.lookup f_names_in = some ⟨oc_names_in, od_names_in, .func (PySem.W.fnOf "names_in" "names_in" (defArgs s_names_in) (defBody s_names_in) (defScope s_names_in) (.ref T_names_in) kV_names_in dc_names_in pm_names_in an_names_in cd_names_in ct_names_in), sl_names_in⟩)
    (c_names_in : PySem.W.codeIn K cd_names_in "names_in" = true)
    (k_names_in : PySem.W.keepIn K (.ref f_names_in) = true)
    (lT_names_in : K.lookup T_names_in = some ⟨to_names_in, td_names_in, .seq #[.ref dM] tn_names_in, ts_names_in⟩)
    (a_is_base : PySem.W.nsIn K mainGlobals "is_base" = some (some (.ref f_is_base)))
    (l_is_base : K.lookup f_is_base = some ⟨oc_is_base, od_is_base, .func (PySem.W.fnOf "is_base" "is_base" (defArgs s_is_base) (defBody s_is_base) (defScope s_is_base) .none kV_is_base dc_is_base pm_is_base an_is_base cd_is_base ct_is_base), sl_is_base⟩)
    (c_is_base : PySem.W.codeIn K cd_is_base "is_base" = true)
    (k_is_base : PySem.W.keepIn K (.ref f_is_base) = true)
    (a_wanted_base : PySem.W.nsIn K mainGlobals "wanted_base" = some (some (.ref f_wanted_base)))
    (l_wanted_base : K.lookup f_wanted_base = some ⟨oc_wanted_base, od_wanted_base, .func (PySem.W.fnOf "wanted_base" "wanted_base" (defArgs s_wanted_base) (defBody s_wanted_base) (defScope s_wanted_base) .none kV_wanted_base dc_wanted_base pm_wanted_base an_wanted_base cd_wanted_base ct_wanted_base), sl_wanted_base⟩)
    (c_wanted_base : PySem.W.codeIn K cd_wanted_base "wanted_base" = true)
    (k_wanted_base : PySem.W.keepIn K (.ref f_wanted_base) = true)
    (a_wanted_plain : PySem.W.nsIn K mainGlobals "wanted_plain" = some (some (.ref f_wanted_plain)))
    (l_wanted_plain : K.lookup f_wanted_plain = some ⟨oc_wanted_plain, od_wanted_plain, .func (PySem.W.fnOf "wanted_plain" "wanted_plain" (defArgs s_wanted_plain) (defBody s_wanted_plain) (defScope s_wanted_plain) .none kV_wanted_plain dc_wanted_plain pm_wanted_plain an_wanted_plain cd_wanted_plain ct_wanted_plain), sl_wanted_plain⟩)
    (c_wanted_plain : PySem.W.codeIn K cd_wanted_plain "wanted_plain" = true)
    (k_wanted_plain : PySem.W.keepIn K (.ref f_wanted_plain) = true)
    (a_wanted_beside : PySem.W.nsIn K mainGlobals "wanted_beside" = some (some (.ref f_wanted_beside)))
    (l_wanted_beside : K.lookup f_wanted_beside = some ⟨oc_wanted_beside, od_wanted_beside, .func (PySem.W.fnOf "wanted_beside" "wanted_beside" (defArgs s_wanted_beside) (defBody s_wanted_beside) (defScope s_wanted_beside) (.ref T_wanted_beside) kV_wanted_beside dc_wanted_beside pm_wanted_beside an_wanted_beside cd_wanted_beside ct_wanted_beside), sl_wanted_beside⟩)
    (c_wanted_beside : PySem.W.codeIn K cd_wanted_beside "wanted_beside" = true)
    (k_wanted_beside : PySem.W.keepIn K (.ref f_wanted_beside) = true)
    (lT_wanted_beside : K.lookup T_wanted_beside = some ⟨to_wanted_beside, td_wanted_beside, .seq #[.int 24 t_WB] tn_wanted_beside, ts_wanted_beside⟩)
    (a_wanted : PySem.W.nsIn K mainGlobals "wanted" = some (some (.ref f_wanted)))
    (l_wanted : K.lookup f_wanted = some ⟨oc_wanted, od_wanted, .func (PySem.W.fnOf "wanted" "wanted" (defArgs s_wanted) (defBody s_wanted) (defScope s_wanted) .none kV_wanted dc_wanted pm_wanted an_wanted cd_wanted ct_wanted), sl_wanted⟩)
    (c_wanted : PySem.W.codeIn K cd_wanted "wanted" = true)
    (k_wanted : PySem.W.keepIn K (.ref f_wanted) = true)
    (a_has_all : PySem.W.nsIn K mainGlobals "has_all" = some (some (.ref f_has_all)))
    (l_has_all : K.lookup f_has_all = some ⟨oc_has_all, od_has_all, .func (PySem.W.fnOf "has_all" "has_all" (defArgs s_has_all) (defBody s_has_all) (defScope s_has_all) .none kV_has_all dc_has_all pm_has_all an_has_all cd_has_all ct_has_all), sl_has_all⟩)
    (c_has_all : PySem.W.codeIn K cd_has_all "has_all" = true)
    (k_has_all : PySem.W.keepIn K (.ref f_has_all) = true)
    (a_next_heads : PySem.W.nsIn K mainGlobals "next_heads" = some (some (.ref f_next_heads)))
    (l_next_heads : K.lookup f_next_heads = some ⟨oc_next_heads, od_next_heads, .func (PySem.W.fnOf "next_heads" "next_heads" (defArgs s_next_heads) (defBody s_next_heads) (defScope s_next_heads) .none kV_next_heads dc_next_heads pm_next_heads an_next_heads cd_next_heads ct_next_heads), sl_next_heads⟩)
    (c_next_heads : PySem.W.codeIn K cd_next_heads "next_heads" = true)
    (k_next_heads : PySem.W.keepIn K (.ref f_next_heads) = true)
    (a_rounds : PySem.W.nsIn K mainGlobals "rounds" = some (some (.ref f_rounds)))
    (l_rounds : K.lookup f_rounds = some ⟨oc_rounds, od_rounds, .func (PySem.W.fnOf "rounds" "rounds" (defArgs s_rounds) (defBody s_rounds) (defScope s_rounds) .none kV_rounds dc_rounds pm_rounds an_rounds cd_rounds ct_rounds), sl_rounds⟩)
    (c_rounds : PySem.W.codeIn K cd_rounds "rounds" = true)
    (k_rounds : PySem.W.keepIn K (.ref f_rounds) = true)
    (a_first_never : PySem.W.nsIn K mainGlobals "first_never" = some (some (.ref f_first_never)))
    (l_first_never : K.lookup f_first_never = some ⟨oc_first_never, od_first_never, .func (PySem.W.fnOf "first_never" "first_never" (defArgs s_first_never) (defBody s_first_never) (defScope s_first_never) .none kV_first_never dc_first_never pm_first_never an_first_never cd_first_never ct_first_never), sl_first_never⟩)
    (c_first_never : PySem.W.codeIn K cd_first_never "first_never" = true)
    (k_first_never : PySem.W.keepIn K (.ref f_first_never) = true)
    (a_held : PySem.W.nsIn K mainGlobals "held" = some (some (.ref f_held)))
    (l_held : K.lookup f_held = some ⟨oc_held, od_held, .func (PySem.W.fnOf "held" "held" (defArgs s_held) (defBody s_held) (defScope s_held) .none kV_held dc_held pm_held an_held cd_held ct_held), sl_held⟩)
    (c_held : PySem.W.codeIn K cd_held "held" = true)
    (k_held : PySem.W.keepIn K (.ref f_held) = true)
    (a_clash : PySem.W.nsIn K mainGlobals "clash" = some (some (.ref f_clash)))
    (l_clash : K.lookup f_clash = some ⟨oc_clash, od_clash, .func (PySem.W.fnOf "clash" "clash" (defArgs s_clash) (defBody s_clash) (defScope s_clash) .none kV_clash dc_clash pm_clash an_clash cd_clash ct_clash), sl_clash⟩)
    (c_clash : PySem.W.codeIn K cd_clash "clash" = true)
    (k_clash : PySem.W.keepIn K (.ref f_clash) = true)
    (a__law_begun : PySem.W.nsIn K mainGlobals "_law_begun" = some (some (.ref f__law_begun)))
    (l__law_begun : K.lookup f__law_begun = some ⟨oc__law_begun, od__law_begun, .func (PySem.W.fnOf "_law_begun" "_law_begun" (defArgs s__law_begun) (defBody s__law_begun) (defScope s__law_begun) .none kV__law_begun dc__law_begun pm__law_begun an__law_begun cd__law_begun ct__law_begun), sl__law_begun⟩)
    (c__law_begun : PySem.W.codeIn K cd__law_begun "_law_begun" = true)
    (k__law_begun : PySem.W.keepIn K (.ref f__law_begun) = true)
    (a__law_take : PySem.W.nsIn K mainGlobals "_law_take" = some (some (.ref f__law_take)))
    (l__law_take : K.lookup f__law_take = some ⟨oc__law_take, od__law_take, .func (PySem.W.fnOf "_law_take" "_law_take" (defArgs s__law_take) (defBody s__law_take) (defScope s__law_take) .none kV__law_take dc__law_take pm__law_take an__law_take cd__law_take ct__law_take), sl__law_take⟩)
    (c__law_take : PySem.W.codeIn K cd__law_take "_law_take" = true)
    (k__law_take : PySem.W.keepIn K (.ref f__law_take) = true)
    (a__law_kept : PySem.W.nsIn K mainGlobals "_law_kept" = some (some (.ref f__law_kept)))
    (l__law_kept : K.lookup f__law_kept = some ⟨oc__law_kept, od__law_kept, .func (PySem.W.fnOf "_law_kept" "_law_kept" (defArgs s__law_kept) (defBody s__law_kept) (defScope s__law_kept) .none kV__law_kept dc__law_kept pm__law_kept an__law_kept cd__law_kept ct__law_kept), sl__law_kept⟩)
    (c__law_kept : PySem.W.codeIn K cd__law_kept "_law_kept" = true)
    (k__law_kept : PySem.W.keepIn K (.ref f__law_kept) = true)
    (a__law_name : PySem.W.nsIn K mainGlobals "_law_name" = some (some (.ref f__law_name)))
    (l__law_name : K.lookup f__law_name = some ⟨oc__law_name, od__law_name, .func (PySem.W.fnOf "_law_name" "_law_name" (defArgs s__law_name) (defBody s__law_name) (defScope s__law_name) .none kV__law_name dc__law_name pm__law_name an__law_name cd__law_name ct__law_name), sl__law_name⟩)
    (c__law_name : PySem.W.codeIn K cd__law_name "_law_name" = true)
    (k__law_name : PySem.W.keepIn K (.ref f__law_name) = true)
    (a__law_names : PySem.W.nsIn K mainGlobals "_law_names" = some (some (.ref f__law_names)))
    (l__law_names : K.lookup f__law_names = some ⟨oc__law_names, od__law_names, .func (PySem.W.fnOf "_law_names" "_law_names" (defArgs s__law_names) (defBody s__law_names) (defScope s__law_names) .none kV__law_names dc__law_names pm__law_names an__law_names cd__law_names ct__law_names), sl__law_names⟩)
    (c__law_names : PySem.W.codeIn K cd__law_names "_law_names" = true)
    (k__law_names : PySem.W.keepIn K (.ref f__law_names) = true)
    (a__law_pair : PySem.W.nsIn K mainGlobals "_law_pair" = some (some (.ref f__law_pair)))
    (l__law_pair : K.lookup f__law_pair = some ⟨oc__law_pair, od__law_pair, .func (PySem.W.fnOf "_law_pair" "_law_pair" (defArgs s__law_pair) (defBody s__law_pair) (defScope s__law_pair) .none kV__law_pair dc__law_pair pm__law_pair an__law_pair cd__law_pair ct__law_pair), sl__law_pair⟩)
    (c__law_pair : PySem.W.codeIn K cd__law_pair "_law_pair" = true)
    (k__law_pair : PySem.W.keepIn K (.ref f__law_pair) = true)
    (a__law_pairs : PySem.W.nsIn K mainGlobals "_law_pairs" = some (some (.ref f__law_pairs)))
    (l__law_pairs : K.lookup f__law_pairs = some ⟨oc__law_pairs, od__law_pairs, .func (PySem.W.fnOf "_law_pairs" "_law_pairs" (defArgs s__law_pairs) (defBody s__law_pairs) (defScope s__law_pairs) .none kV__law_pairs dc__law_pairs pm__law_pairs an__law_pairs cd__law_pairs ct__law_pairs), sl__law_pairs⟩)
    (c__law_pairs : PySem.W.codeIn K cd__law_pairs "_law_pairs" = true)
    (k__law_pairs : PySem.W.keepIn K (.ref f__law_pairs) = true)
    (a__law_some : PySem.W.nsIn K mainGlobals "_law_some" = some (some (.ref f__law_some)))
    (l__law_some : K.lookup f__law_some = some ⟨oc__law_some, od__law_some, .func (PySem.W.fnOf "_law_some" "_law_some" (defArgs s__law_some) (defBody s__law_some) (defScope s__law_some) .none kV__law_some dc__law_some pm__law_some an__law_some cd__law_some ct__law_some), sl__law_some⟩)
    (c__law_some : PySem.W.codeIn K cd__law_some "_law_some" = true)
    (k__law_some : PySem.W.keepIn K (.ref f__law_some) = true)
    (a__law_held : PySem.W.nsIn K mainGlobals "_law_held" = some (some (.ref f__law_held)))
    (l__law_held : K.lookup f__law_held = some ⟨oc__law_held, od__law_held, .func (PySem.W.fnOf "_law_held" "_law_held" (defArgs s__law_held) (defBody s__law_held) (defScope s__law_held) .none kV__law_held dc__law_held pm__law_held an__law_held cd__law_held ct__law_held), sl__law_held⟩)
    (c__law_held : PySem.W.codeIn K cd__law_held "_law_held" = true)
    (k__law_held : PySem.W.keepIn K (.ref f__law_held) = true)
    (a__law_same0 : PySem.W.nsIn K mainGlobals "_law_same" = some (some (.ref f__law_same0)))
    (l__law_same0 : K.lookup f__law_same0 = some ⟨oc__law_same0, od__law_same0, .func (PySem.W.fnOf "_law_same" "_law_same" (defArgs s__law_same0) (defBody s__law_same0) (defScope s__law_same0) .none kV__law_same0 dc__law_same0 pm__law_same0 an__law_same0 cd__law_same0 ct__law_same0), sl__law_same0⟩)
    (c__law_same0 : PySem.W.codeIn K cd__law_same0 "_law_same" = true)
    (k__law_same0 : PySem.W.keepIn K (.ref f__law_same0) = true)
    (a__law_same : PySem.W.nsIn K mainGlobals "_law_same" = some (some (.ref f__law_same)))
    (l__law_same : K.lookup f__law_same = some ⟨oc__law_same, od__law_same, .func (PySem.W.fnOf "_law_same" "_law_same" (defArgs s__law_same) (defBody s__law_same) (defScope s__law_same) .none kV__law_same dc__law_same pm__law_same an__law_same cd__law_same ct__law_same), sl__law_same⟩)
    (c__law_same : PySem.W.codeIn K cd__law_same "_law_same" = true)
    (k__law_same : PySem.W.keepIn K (.ref f__law_same) = true)
    (a__law_clash : PySem.W.nsIn K mainGlobals "_law_clash" = some (some (.ref f__law_clash)))
    (l__law_clash : K.lookup f__law_clash = some ⟨oc__law_clash, od__law_clash, .func (PySem.W.fnOf "_law_clash" "_law_clash" (defArgs s__law_clash) (defBody s__law_clash) (defScope s__law_clash) .none kV__law_clash dc__law_clash pm__law_clash an__law_clash cd__law_clash ct__law_clash), sl__law_clash⟩)
    (c__law_clash : PySem.W.codeIn K cd__law_clash "_law_clash" = true)
    (k__law_clash : PySem.W.keepIn K (.ref f__law_clash) = true)
    (a__law_turned : PySem.W.nsIn K mainGlobals "_law_turned" = some (some (.ref f__law_turned)))
    (l__law_turned : K.lookup f__law_turned = some ⟨oc__law_turned, od__law_turned, .func (PySem.W.fnOf "_law_turned" "_law_turned" (defArgs s__law_turned) (defBody s__law_turned) (defScope s__law_turned) .none kV__law_turned dc__law_turned pm__law_turned an__law_turned cd__law_turned ct__law_turned), sl__law_turned⟩)
    (c__law_turned : PySem.W.codeIn K cd__law_turned "_law_turned" = true)
    (k__law_turned : PySem.W.keepIn K (.ref f__law_turned) = true)
    (a__law_right : PySem.W.nsIn K mainGlobals "_law_right" = some (some (.ref f__law_right)))
    (l__law_right : K.lookup f__law_right = some ⟨oc__law_right, od__law_right, .func (PySem.W.fnOf "_law_right" "_law_right" (defArgs s__law_right) (defBody s__law_right) (defScope s__law_right) .none kV__law_right dc__law_right pm__law_right an__law_right cd__law_right ct__law_right), sl__law_right⟩)
    (c__law_right : PySem.W.codeIn K cd__law_right "_law_right" = true)
    (k__law_right : PySem.W.keepIn K (.ref f__law_right) = true)
    (a_law : PySem.W.nsIn K mainGlobals "law" = some (some (.ref f_law)))
    (l_law : K.lookup f_law = some ⟨oc_law, od_law, .func (PySem.W.fnOf "law" "law" (defArgs s_law) (defBody s_law) (defScope s_law) .none kV_law dc_law pm_law an_law cd_law ct_law), sl_law⟩)
    (c_law : PySem.W.codeIn K cd_law "law" = true)
    (k_law : PySem.W.keepIn K (.ref f_law) = true)
    {ed_dB : Option Addr} {en_dB : Nat} {es_dB : Array (Option Value)} {ed_dU : Option Addr} {en_dU : Nat} {es_dU : Array (Option Value)}
    {ed_dM : Option Addr} {en_dM : Nat} {es_dM : Array (Option Value)}
    (l_dB : K.lookup dB = some ⟨.type "tuple", ed_dB, .seq #[] en_dB, es_dB⟩)
    (l_dU : K.lookup dU = some ⟨.type "tuple", ed_dU, .seq #[] en_dU, es_dU⟩)
    (l_dM : K.lookup dM = some ⟨.type "tuple", ed_dM, .seq #[] en_dM, es_dM⟩)
    (z_all : PySem.W.nsIn K mainGlobals "all" = some none)
    (z_any : PySem.W.nsIn K mainGlobals "any" = some none)
    (z_bool : PySem.W.nsIn K mainGlobals "bool" = some none)
    (z_enumerate : PySem.W.nsIn K mainGlobals "enumerate" = some none)
    (z_int : PySem.W.nsIn K mainGlobals "int" = some none)
    (z_isinstance : PySem.W.nsIn K mainGlobals "isinstance" = some none)
    (z_len : PySem.W.nsIn K mainGlobals "len" = some none)
    (z_list : PySem.W.nsIn K mainGlobals "list" = some none)
    (z_min : PySem.W.nsIn K mainGlobals "min" = some none)
    (z_range : PySem.W.nsIn K mainGlobals "range" = some none)
    (z_set : PySem.W.nsIn K mainGlobals "set" = some none)
    (z_sorted : PySem.W.nsIn K mainGlobals "sorted" = some none)
    (z_str : PySem.W.nsIn K mainGlobals "str" = some none)
    (z_tuple : PySem.W.nsIn K mainGlobals "tuple" = some none)
    (z_zip : PySem.W.nsIn K mainGlobals "zip" = some none)
    {t_LN : Tok}
    (a_LONGEST_NAME : PySem.W.nsIn K mainGlobals "LONGEST_NAME" = some (some (.int 8 t_LN)))
    {f_TW : Addr} {dd_TW : Option Addr} {n_TW : Nat} {sl_TW : Array (Option Value)} {t_T1 t_T2 t_T3 : Tok}
    (a_TAKEN_WORDS : PySem.W.nsIn K mainGlobals "TAKEN_WORDS" = some (some (.ref f_TW)))
    (l_TAKEN_WORDS : K.lookup f_TW = some ⟨.type "tuple", dd_TW, .seq #[.str "not" t_T1, .str "never" t_T2, .str "may" t_T3] n_TW, sl_TW⟩)
    {t_MB : Tok}
    (a_MOST_BODY : PySem.W.nsIn K mainGlobals "MOST_BODY" = some (some (.int 6 t_MB)))
    {t_MU : Tok}
    (a_MOST_UNLESS : PySem.W.nsIn K mainGlobals "MOST_UNLESS" = some (some (.int 4 t_MU)))
    {t_MR : Tok}
    (a_MOST_RULES : PySem.W.nsIn K mainGlobals "MOST_RULES" = some (some (.int 40 t_MR)))
    {t_MNS : Tok}
    (a_MOST_NAMES : PySem.W.nsIn K mainGlobals "MOST_NAMES" = some (some (.int 24 t_MNS)))
    (pg : PySem.W.plainGet K c_Rule Str.empty = true)
    (hdi : PySem.W.hasDictIn K c_Rule = true)
    (po : PySem.W.plainOver K c_Rule = true)
    (sa : PySem.W.findIn K (.ref c_Rule) "__setattr__" = some (some (.builtin "object.__setattr__")))
    (mk : PySem.W.makesIn K c_Rule = true)
    (kc : PySem.W.keepIn K (.ref c_Rule) = true)
    (no_head : PySem.W.findIn K (.ref c_Rule) "head" = some none)
    (no_body : PySem.W.findIn K (.ref c_Rule) "body" = some none)
    (no_unless : PySem.W.findIn K (.ref c_Rule) "unless" = some none)
    (r_ha : PySem.W.findIn K (.ref c_Rule) "__class__" = some (some (.builtin "object.__class__")))
    (r_hn : PySem.W.specialIn K (.builtin "object.__class__") "__get__" = some (some (.builtin "getset_descriptor.__get__")))
    (r_ht : PySem.W.takesIn K (.builtin "object.__class__") = some true)
    (r_hm : PySem.W.mroIn K c_Rule (.type "object") = some true)
    (s_r_no_str : PySem.W.subIn K (.ref c_Rule) (.type "str") = some false)
    (s_r_no_tuple : PySem.W.subIn K (.ref c_Rule) (.type "tuple") = some false)
    (s_r_no_list : PySem.W.subIn K (.ref c_Rule) (.type "list") = some false)
    (s_r_o_NoneType : PySem.W.subIn K (.type "NoneType") (.ref c_Rule) = some false)
    (ic_c_Rule : PySem.W.isClsIn K c_Rule = true)
    (ty_c_Rule : PySem.W.typeIn K (.ref c_Rule) = some (.type "type"))
    (s_r_o_bool : PySem.W.subIn K (.type "bool") (.ref c_Rule) = some false)
    (s_r_o_int : PySem.W.subIn K (.type "int") (.ref c_Rule) = some false)
    (s_r_o_str : PySem.W.subIn K (.type "str") (.ref c_Rule) = some false)
    (s_r_o_list : PySem.W.subIn K (.type "list") (.ref c_Rule) = some false)
    (s_r_o_tuple : PySem.W.subIn K (.type "tuple") (.ref c_Rule) = some false)
    (s_r_o_dict : PySem.W.subIn K (.type "dict") (.ref c_Rule) = some false)
    (r_f_NoneType : PySem.W.notFirst K c_Rule (.type "NoneType") = true)
    (r_f_bool : PySem.W.notFirst K c_Rule (.type "bool") = true)
    (r_f_int : PySem.W.notFirst K c_Rule (.type "int") = true)
    (r_f_str : PySem.W.notFirst K c_Rule (.type "str") = true)
    (r_f_list : PySem.W.notFirst K c_Rule (.type "list") = true)
    (r_f_tuple : PySem.W.notFirst K c_Rule (.type "tuple") = true)
    (r_f_dict : PySem.W.notFirst K c_Rule (.type "dict") = true)
    (r_f1 : PySem.W.notFirst K c_Rule (.ref c_Rule) = true)
    (x_BadRule : PySem.W.excIn K c_BadRule [.type "ValueError", .type "Exception", .type "BaseException", .type "object"] "ValueError.__new__" = true)
    (xk_BadRule : PySem.W.keepIn K (.ref c_BadRule) = true)
    (xb_BadRule : PySem.W.subIn K (.ref c_BadRule) (.type "BaseException") = some true)
    (xt_BadRule : PySem.W.typeIn K (.ref c_BadRule) = some (.type "type"))
    : ∃ fd : FuncData, (∀ (s : Shared) (v : Value), BindsTo s fd ⟨[v], []⟩ [("script", v)]) ∧ ∀ base : Heap, K.In base → base.Ns mainGlobals mg → FnOk l.prog w K mg base CX0 9 fa fd ["script"] (sp_law l.prog w K Z0) := by
  have e := hfa.symm.trans (PySem.W.mg_of X G a_law)
  cases e
  let Z : Ads := ⟨0, 0, 0, c_BadRule, 0, 0, 0, 0, 0, 0, 0, 0, 0, 0, 0, 0, 0, 0, 0, 0, 0, 0, c_Rule, 0, 0, 0, 0, dM, dB, dU⟩
  have r_self : PySem.W.kitOne K (.ref c_Rule) (.ref c_Rule) = some true := kit_self
  have r_no_str : PySem.W.kitOne K (.ref c_Rule) (.type "str") = some false := kit_rt (by decide +kernel) s_r_no_str
  have r_no_tuple : PySem.W.kitOne K (.ref c_Rule) (.type "tuple") = some false := kit_rt (by decide +kernel) s_r_no_tuple
  have r_no_list : PySem.W.kitOne K (.ref c_Rule) (.type "list") = some false := kit_rt (by decide +kernel) s_r_no_list
  have r_o_NoneType : PySem.W.kitOne K (.type "NoneType") (.ref c_Rule) = some false := kit_tr ic_c_Rule ty_c_Rule s_r_o_NoneType
  have r_o_bool : PySem.W.kitOne K (.type "bool") (.ref c_Rule) = some false := kit_tr ic_c_Rule ty_c_Rule s_r_o_bool
  have r_o_int : PySem.W.kitOne K (.type "int") (.ref c_Rule) = some false := kit_tr ic_c_Rule ty_c_Rule s_r_o_int
  have r_o_str : PySem.W.kitOne K (.type "str") (.ref c_Rule) = some false := kit_tr ic_c_Rule ty_c_Rule s_r_o_str
  have r_o_list : PySem.W.kitOne K (.type "list") (.ref c_Rule) = some false := kit_tr ic_c_Rule ty_c_Rule s_r_o_list
  have r_o_tuple : PySem.W.kitOne K (.type "tuple") (.ref c_Rule) = some false := kit_tr ic_c_Rule ty_c_Rule s_r_o_tuple
  have r_o_dict : PySem.W.kitOne K (.type "dict") (.ref c_Rule) = some false := kit_tr ic_c_Rule ty_c_Rule s_r_o_dict
  have oth : ∀ n, n ∈ kinds → PySem.W.kitOne K (.type n) (.ref c_Rule) = some false := by
    intro n hn
    simp only [kinds, List.mem_cons, List.not_mem_nil, or_false] at hn
    rcases hn with rfl | rfl | rfl | rfl | rfl | rfl | rfl
    · exact r_o_NoneType
    · exact r_o_bool
    · exact r_o_int
    · exact r_o_str
    · exact r_o_list
    · exact r_o_tuple
    · exact r_o_dict
  have fst : ∀ n, n ∈ kinds → PySem.W.notFirst K c_Rule (.type n) = true := by
    intro n hn
    simp only [kinds, List.mem_cons, List.not_mem_nil, or_false] at hn
    rcases hn with rfl | rfl | rfl | rfl | rfl | rfl | rfl
    · exact r_f_NoneType
    · exact r_f_bool
    · exact r_f_int
    · exact r_f_str
    · exact r_f_list
    · exact r_f_tuple
    · exact r_f_dict
  have R : RuleC K Z.Rule := ⟨⟨pg, hdi, po, sa⟩, no_head, no_body, no_unless, r_ha, r_hn, r_ht, r_hm, r_self, r_no_str, r_no_tuple, r_no_list, oth, fst, r_f1⟩
  have hB : ∀ H, SqT K H Z.dB [] := fun H => .inr ⟨_, _, _, l_dB, rfl, rfl, by show 0 ≤ sizeLine; exact Nat.zero_le _, .nil⟩
  have hU : ∀ H, SqT K H Z.dU [] := fun H => .inr ⟨_, _, _, l_dU, rfl, rfl, by show 0 ≤ sizeLine; exact Nat.zero_le _, .nil⟩
  have hM : ∀ H, SqT K H Z.Desk [] := fun H => .inr ⟨_, _, _, l_dM, rfl, rfl, by show 0 ≤ sizeLine; exact Nat.zero_le _, .nil⟩
  have cl_BadRule := PySem.W.mg_of X G a_BadRule
  have cl_Rule := PySem.W.mg_of X G a_Rule
  have X_BadRule : ExC K mg "BadRule" Z.BadRule := ⟨cl_BadRule, x_BadRule, xk_BadRule, xb_BadRule, xt_BadRule⟩
  have F_is_small_letter := fun_mk (st := s_is_small_letter) l_is_small_letter c_is_small_letter k_is_small_letter
  have B_is_small_letter := F_is_small_letter.binds (ps := ["sign"]) fun _ _ _ _ _ _ us hl => match us, hl with | [_], _ => rfl
  have m_is_small_letter := PySem.W.mg_of X G a_is_small_letter
  have F_is_name := fun_mk (st := s_is_name) l_is_name c_is_name k_is_name
  have B_is_name := F_is_name.binds (ps := ["thing"]) fun _ _ _ _ _ _ us hl => match us, hl with | [_], _ => rfl
  have m_is_name := PySem.W.mg_of X G a_is_name
  have F_is_names : FunD K "is_names" "is_names" (defArgs s_is_names) (defBody s_is_names) (defScope s_is_names) [.int 24] [] f_is_names _ := ⟨⟨oc_is_names, od_is_names, .ref T_is_names, kV_is_names, dc_is_names, pm_is_names, an_is_names, cd_is_names, ct_is_names, sl_is_names, rfl, l_is_names, c_is_names, .inr ⟨by simp, _, _, [.int 24 t_MN], _, rfl, lT_is_names, rfl, .cons (⟨_, rfl⟩) (.nil)⟩, .inl rfl⟩, k_is_names⟩
  have m_is_names := PySem.W.mg_of X G a_is_names
  have F_wanted_names : FunD K "wanted_names" "wanted_names" (defArgs s_wanted_names) (defBody s_wanted_names) (defScope s_wanted_names) [.int 24] [] f_wanted_names _ := ⟨⟨oc_wanted_names, od_wanted_names, .ref T_wanted_names, kV_wanted_names, dc_wanted_names, pm_wanted_names, an_wanted_names, cd_wanted_names, ct_wanted_names, sl_wanted_names, rfl, l_wanted_names, c_wanted_names, .inr ⟨by simp, _, _, [.int 24 t_WN], _, rfl, lT_wanted_names, rfl, .cons (⟨_, rfl⟩) (.nil)⟩, .inl rfl⟩, k_wanted_names⟩
  have m_wanted_names := PySem.W.mg_of X G a_wanted_names
  have kd_Rule___init__ : ∀ q, q ∈ ([("unless", .ref dU)] : List (Str × V)) → ∃ u, PySem.W.nsIn K D_Rule___init__ q.1 = some (some u) ∧ RelV q.2 u := by
    intro q hq
    simp only [List.mem_cons, List.not_mem_nil, or_false] at hq
    subst hq
    · exact ⟨_, nD_Rule___init___unless, rfl⟩
  have F_Rule___init__ : FunD K "__init__" "Rule.__init__" (defArgs s_Rule___init__) (defBody s_Rule___init__) (defScope s_Rule___init__) [.ref dB] [("unless", .ref dU)] f_Rule___init__ _ := ⟨⟨oc_Rule___init__, od_Rule___init__, .ref T_Rule___init__, .ref D_Rule___init__, dc_Rule___init__, pm_Rule___init__, an_Rule___init__, cd_Rule___init__, ct_Rule___init__, sl_Rule___init__, rfl, l_Rule___init__, c_Rule___init__, .inr ⟨by simp, _, _, [.ref dB], _, rfl, lT_Rule___init__, rfl, .cons (rfl) (.nil)⟩, .inr ⟨_, rfl, kd_Rule___init__⟩⟩, k_Rule___init__⟩
  have F_Rule_told := fun_mk (st := s_Rule_told) l_Rule_told c_Rule_told k_Rule_told
  have B_Rule_told := F_Rule_told.binds (ps := ["self"]) fun _ _ _ _ _ _ us hl => match us, hl with | [_], _ => rfl
  have F_names_in : FunD K "names_in" "names_in" (defArgs s_names_in) (defBody s_names_in) (defScope s_names_in) [.ref dM] [] f_names_in _ := ⟨⟨oc_names_in, od_names_in, .ref T_names_in, kV_names_in, dc_names_in, pm_names_in, an_names_in, cd_names_in, ct_names_in, sl_names_in, rfl, l_names_in, c_names_in, .inr ⟨by simp, _, _, [.ref dM], _, rfl, lT_names_in, rfl, .cons (rfl) (.nil)⟩, .inl rfl⟩, k_names_in⟩
  have m_names_in := PySem.W.mg_of X G a_names_in
  have F_is_base := fun_mk (st := s_is_base) l_is_base c_is_base k_is_base
  have B_is_base := F_is_base.binds (ps := ["thing"]) fun _ _ _ _ _ _ us hl => match us, hl with | [_], _ => rfl
  have m_is_base := PySem.W.mg_of X G a_is_base
  have F_wanted_base := fun_mk (st := s_wanted_base) l_wanted_base c_wanted_base k_wanted_base
  have B_wanted_base := F_wanted_base.binds (ps := ["thing"]) fun _ _ _ _ _ _ us hl => match us, hl with | [_], _ => rfl
  have m_wanted_base := PySem.W.mg_of X G a_wanted_base
  have F_wanted_plain := fun_mk (st := s_wanted_plain) l_wanted_plain c_wanted_plain k_wanted_plain
  have B_wanted_plain := F_wanted_plain.binds (ps := ["thing"]) fun _ _ _ _ _ _ us hl => match us, hl with | [_], _ => rfl
  have m_wanted_plain := PySem.W.mg_of X G a_wanted_plain
  have F_wanted_beside : FunD K "wanted_beside" "wanted_beside" (defArgs s_wanted_beside) (defBody s_wanted_beside) (defScope s_wanted_beside) [.int 24] [] f_wanted_beside _ := ⟨⟨oc_wanted_beside, od_wanted_beside, .ref T_wanted_beside, kV_wanted_beside, dc_wanted_beside, pm_wanted_beside, an_wanted_beside, cd_wanted_beside, ct_wanted_beside, sl_wanted_beside, rfl, l_wanted_beside, c_wanted_beside, .inr ⟨by simp, _, _, [.int 24 t_WB], _, rfl, lT_wanted_beside, rfl, .cons (⟨_, rfl⟩) (.nil)⟩, .inl rfl⟩, k_wanted_beside⟩
  have m_wanted_beside := PySem.W.mg_of X G a_wanted_beside
  have F_wanted := fun_mk (st := s_wanted) l_wanted c_wanted k_wanted
  have B_wanted := F_wanted.binds (ps := ["rules", "grounds"]) fun _ _ _ _ _ _ us hl => match us, hl with | [_, _], _ => rfl
  have m_wanted := PySem.W.mg_of X G a_wanted
  have F_has_all := fun_mk (st := s_has_all) l_has_all c_has_all k_has_all
  have B_has_all := F_has_all.binds (ps := ["there", "names"]) fun _ _ _ _ _ _ us hl => match us, hl with | [_, _], _ => rfl
  have m_has_all := PySem.W.mg_of X G a_has_all
  have F_next_heads := fun_mk (st := s_next_heads) l_next_heads c_next_heads k_next_heads
  have B_next_heads := F_next_heads.binds (ps := ["rules", "there"]) fun _ _ _ _ _ _ us hl => match us, hl with | [_, _], _ => rfl
  have m_next_heads := PySem.W.mg_of X G a_next_heads
  have F_rounds := fun_mk (st := s_rounds) l_rounds c_rounds k_rounds
  have B_rounds := F_rounds.binds (ps := ["rules", "grounds"]) fun _ _ _ _ _ _ us hl => match us, hl with | [_, _], _ => rfl
  have m_rounds := PySem.W.mg_of X G a_rounds
  have F_first_never := fun_mk (st := s_first_never) l_first_never c_first_never k_first_never
  have B_first_never := F_first_never.binds (ps := ["rules", "there"]) fun _ _ _ _ _ _ us hl => match us, hl with | [_, _], _ => rfl
  have m_first_never := PySem.W.mg_of X G a_first_never
  have F_held := fun_mk (st := s_held) l_held c_held k_held
  have B_held := F_held.binds (ps := ["rules", "grounds"]) fun _ _ _ _ _ _ us hl => match us, hl with | [_, _], _ => rfl
  have m_held := PySem.W.mg_of X G a_held
  have F_clash := fun_mk (st := s_clash) l_clash c_clash k_clash
  have B_clash := F_clash.binds (ps := ["rules", "grounds"]) fun _ _ _ _ _ _ us hl => match us, hl with | [_, _], _ => rfl
  have m_clash := PySem.W.mg_of X G a_clash
  have F__law_begun := fun_mk (st := s__law_begun) l__law_begun c__law_begun k__law_begun
  have B__law_begun := F__law_begun.binds (ps := ["script"]) fun _ _ _ _ _ _ us hl => match us, hl with | [_], _ => rfl
  have m__law_begun := PySem.W.mg_of X G a__law_begun
  have F__law_take := fun_mk (st := s__law_take) l__law_take c__law_take k__law_take
  have B__law_take := F__law_take.binds (ps := ["state", "many"]) fun _ _ _ _ _ _ us hl => match us, hl with | [_, _], _ => rfl
  have m__law_take := PySem.W.mg_of X G a__law_take
  have F__law_kept := fun_mk (st := s__law_kept) l__law_kept c__law_kept k__law_kept
  have B__law_kept := F__law_kept.binds (ps := []) fun _ _ _ _ _ _ us hl => match us, hl with | [], _ => rfl
  have m__law_kept := PySem.W.mg_of X G a__law_kept
  have F__law_name := fun_mk (st := s__law_name) l__law_name c__law_name k__law_name
  have B__law_name := F__law_name.binds (ps := ["state", "used"]) fun _ _ _ _ _ _ us hl => match us, hl with | [_, _], _ => rfl
  have m__law_name := PySem.W.mg_of X G a__law_name
  have F__law_names := fun_mk (st := s__law_names) l__law_names c__law_names k__law_names
  have B__law_names := F__law_names.binds (ps := ["state", "used", "many"]) fun _ _ _ _ _ _ us hl => match us, hl with | [_, _, _], _ => rfl
  have m__law_names := PySem.W.mg_of X G a__law_names
  have F__law_pair := fun_mk (st := s__law_pair) l__law_pair c__law_pair k__law_pair
  have B__law_pair := F__law_pair.binds (ps := ["state", "names"]) fun _ _ _ _ _ _ us hl => match us, hl with | [_, _], _ => rfl
  have m__law_pair := PySem.W.mg_of X G a__law_pair
  have F__law_pairs := fun_mk (st := s__law_pairs) l__law_pairs c__law_pairs k__law_pairs
  have B__law_pairs := F__law_pairs.binds (ps := ["state", "names", "most"]) fun _ _ _ _ _ _ us hl => match us, hl with | [_, _, _], _ => rfl
  have m__law_pairs := PySem.W.mg_of X G a__law_pairs
  have F__law_some := fun_mk (st := s__law_some) l__law_some c__law_some k__law_some
  have B__law_some := F__law_some.binds (ps := ["state", "names"]) fun _ _ _ _ _ _ us hl => match us, hl with | [_, _], _ => rfl
  have m__law_some := PySem.W.mg_of X G a__law_some
  have F__law_held := fun_mk (st := s__law_held) l__law_held c__law_held k__law_held
  have B__law_held := F__law_held.binds (ps := ["pairs", "some"]) fun _ _ _ _ _ _ us hl => match us, hl with | [_, _], _ => rfl
  have m__law_held := PySem.W.mg_of X G a__law_held
  have F__law_same0 := fun_mk (st := s__law_same0) l__law_same0 c__law_same0 k__law_same0
  have B__law_same0 := F__law_same0.binds (ps := ["found", "due"]) fun _ _ _ _ _ _ us hl => match us, hl with | [_, _], _ => rfl
  have m__law_same0 := PySem.W.mg_of X G a__law_same0
  have F__law_same := fun_mk (st := s__law_same) l__law_same c__law_same k__law_same
  have B__law_same := F__law_same.binds (ps := ["found", "due"]) fun _ _ _ _ _ _ us hl => match us, hl with | [_, _], _ => rfl
  have m__law_same := PySem.W.mg_of X G a__law_same
  have F__law_clash := fun_mk (st := s__law_clash) l__law_clash c__law_clash k__law_clash
  have B__law_clash := F__law_clash.binds (ps := ["pairs", "names"]) fun _ _ _ _ _ _ us hl => match us, hl with | [_, _], _ => rfl
  have m__law_clash := PySem.W.mg_of X G a__law_clash
  have F__law_turned := fun_mk (st := s__law_turned) l__law_turned c__law_turned k__law_turned
  have B__law_turned := F__law_turned.binds (ps := ["state", "pairs"]) fun _ _ _ _ _ _ us hl => match us, hl with | [_, _], _ => rfl
  have m__law_turned := PySem.W.mg_of X G a__law_turned
  have F__law_right := fun_mk (st := s__law_right) l__law_right c__law_right k__law_right
  have B__law_right := F__law_right.binds (ps := ["pairs", "some"]) fun _ _ _ _ _ _ us hl => match us, hl with | [_, _], _ => rfl
  have m__law_right := PySem.W.mg_of X G a__law_right
  have F_law := fun_mk (st := s_law) l_law c_law k_law
  have n_all := PySem.W.mg_none_of X G z_all
  have n_any := PySem.W.mg_none_of X G z_any
  have n_bool := PySem.W.mg_none_of X G z_bool
  have n_enumerate := PySem.W.mg_none_of X G z_enumerate
  have n_int := PySem.W.mg_none_of X G z_int
  have n_isinstance := PySem.W.mg_none_of X G z_isinstance
  have n_len := PySem.W.mg_none_of X G z_len
  have n_list := PySem.W.mg_none_of X G z_list
  have n_min := PySem.W.mg_none_of X G z_min
  have n_range := PySem.W.mg_none_of X G z_range
  have n_set := PySem.W.mg_none_of X G z_set
  have n_sorted := PySem.W.mg_none_of X G z_sorted
  have n_str := PySem.W.mg_none_of X G z_str
  have n_tuple := PySem.W.mg_none_of X G z_tuple
  have n_zip := PySem.W.mg_none_of X G z_zip
  have m_LONGEST_NAME := PySem.W.mg_of X G a_LONGEST_NAME
  have m_TAKEN_WORDS := PySem.W.mg_of X G a_TAKEN_WORDS
  have m_MOST_BODY := PySem.W.mg_of X G a_MOST_BODY
  have m_MOST_UNLESS := PySem.W.mg_of X G a_MOST_UNLESS
  have m_MOST_RULES := PySem.W.mg_of X G a_MOST_RULES
  have m_MOST_NAMES := PySem.W.mg_of X G a_MOST_NAMES
  refine ⟨PySem.W.fnOf "law" "law" (defArgs s_law) (defBody s_law) (defScope s_law) .none kV_law dc_law pm_law an_law cd_law ct_law, fun s v => .of_eq rfl, fun base _ _ => ?_⟩
  have K_is_small_letter : FnOk l.prog w K mg base CX0 1 _ _ ["sign"] (sp_is_small_letter K) := ok_is_small_letter (Z := Z) F_is_small_letter 
  have C_is_small_letter := cal_of F_is_small_letter K_is_small_letter m_is_small_letter B_is_small_letter
  have K_Rule_told : FnOk l.prog w K mg base CX0 1 _ _ ["self"] (sp_Rule_told K Z) := ok_Rule_told (Z := Z) F_Rule_told R
  have T_Rule_told : Met l.prog w K mg base CX0 1 Z.Rule "told" (sp_Rule_told K Z) := ⟨_, _, _, R.cls, ⟨a_Rule_told, i_Rule_told, k_Rule_told⟩, K_Rule_told, B_Rule_told⟩
  have K_names_in : FnOk l.prog w K mg base CX0 1 _ _ ["rules", "more"] (sp_names_in K Z) := ok_names_in (Z := Z) F_names_in n_sorted R
  have C_names_in : Cal l.prog w K mg base CX0 1 "names_in" ["rules", "more"] [] (sp_names_in K Z) := by
    obtain ⟨ds, r, B⟩ := F_names_in.binds1 (ps := ["rules", "more"]) 2 1 (by simp) rfl (fun T kV doc pm an cdv ct us its h1 h2 => by
      match us, its, h1, h2 with
      | [_, _], [_], _, _ => exact ⟨_, rfl, rfl⟩)
    cases r
    exact ⟨_, _, _, K_names_in, m_names_in, F_names_in.kp, B, .nil⟩
  have C_names_in_1 : Cal l.prog w K mg base CX0 1 "names_in" ["rules", "more"] [.ref dM] (sp_names_in K Z) := by
    obtain ⟨ds, r, B⟩ := F_names_in.binds1 (ps := ["rules", "more"]) 1 0 (by simp) rfl (fun T kV doc pm an cdv ct us its h1 h2 => by
      match us, its, h1, h2 with
      | [_], [_], _, _ => exact ⟨_, rfl, rfl⟩)
    exact ⟨_, _, _, K_names_in, m_names_in, F_names_in.kp, B, r⟩
  have K_has_all : FnOk l.prog w K mg base CX0 1 _ _ ["there", "names"] (sp_has_all K) := ok_has_all (Z := Z) F_has_all n_all
  have C_has_all := cal_of F_has_all K_has_all m_has_all B_has_all
  have K__law_begun : FnOk l.prog w K mg base CX0 1 _ _ ["script"] (sp__law_begun l.prog w K) := ok__law_begun (Z := Z) F__law_begun 
  have C__law_begun := cal_of F__law_begun K__law_begun m__law_begun B__law_begun
  have K__law_take : FnOk l.prog w K mg base CX0 1 _ _ ["state", "many"] (sp__law_take l.prog w K) := ok__law_take (Z := Z) F__law_take n_len
  have C__law_take := cal_of F__law_take K__law_take m__law_take B__law_take
  have K__law_kept : FnOk l.prog w K mg base CX0 1 _ _ [] (sp__law_kept K) := ok__law_kept (Z := Z) F__law_kept 
  have C__law_kept := cal_of F__law_kept K__law_kept m__law_kept B__law_kept
  have K__law_held : FnOk l.prog w K mg base CX0 1 _ _ ["pairs", "some"] (sp__law_held K) := ok__law_held (Z := Z) F__law_held n_len n_list
  have C__law_held := cal_of F__law_held K__law_held m__law_held B__law_held
  have K__law_same0 : FnOk l.prog w K mg base CX0 1 _ _ ["found", "due"] (sp__law_same0 K) := ok__law_same0 (Z := Z) F__law_same0 n_bool n_int n_isinstance n_len n_list n_str n_tuple
  have C__law_same0 := cal_of F__law_same0 K__law_same0 m__law_same0 B__law_same0
  have K__law_clash : FnOk l.prog w K mg base CX0 1 _ _ ["pairs", "names"] (sp__law_clash K) := ok__law_clash (Z := Z) F__law_clash 
  have C__law_clash := cal_of F__law_clash K__law_clash m__law_clash B__law_clash
  have K_is_name : FnOk l.prog w K mg base CX0 2 _ _ ["thing"] (sp_is_name K) := ok_is_name (Z := Z) F_is_name C_is_small_letter n_all n_isinstance n_len n_str m_LONGEST_NAME m_TAKEN_WORDS (fun H => .inr ⟨_, _, _, l_TAKEN_WORDS, rfl, rfl, by show 3 ≤ sizeLine; decide, .cons ⟨_, rfl⟩ (.cons ⟨_, rfl⟩ (.cons ⟨_, rfl⟩ .nil))⟩)
  have C_is_name := cal_of F_is_name K_is_name m_is_name B_is_name
  have K_is_base : FnOk l.prog w K mg base CX0 2 _ _ ["thing"] (sp_is_base K Z) := ok_is_base (Z := Z) F_is_base C_names_in_1 cl_Rule n_all n_isinstance n_len n_list n_tuple m_MOST_NAMES m_MOST_RULES R hM
  have C_is_base := cal_of F_is_base K_is_base m_is_base B_is_base
  have K_next_heads : FnOk l.prog w K mg base CX0 2 _ _ ["rules", "there"] (sp_next_heads K Z) := ok_next_heads (Z := Z) F_next_heads C_has_all R
  have C_next_heads := cal_of F_next_heads K_next_heads m_next_heads B_next_heads
  have K_first_never : FnOk l.prog w K mg base CX0 2 _ _ ["rules", "there"] (sp_first_never K Z) := ok_first_never (Z := Z) F_first_never C_has_all n_enumerate R
  have C_first_never := cal_of F_first_never K_first_never m_first_never B_first_never
  have K__law_name : FnOk l.prog w K mg base CX0 2 _ _ ["state", "used"] (sp__law_name l.prog w K) := ok__law_name (Z := Z) F__law_name C__law_take n_len n_range
  have C__law_name := cal_of F__law_name K__law_name m__law_name B__law_name
  have K__law_pair : FnOk l.prog w K mg base CX0 2 _ _ ["state", "names"] (sp__law_pair l.prog w K) := ok__law_pair (Z := Z) F__law_pair C__law_take n_len n_list n_min n_range n_tuple
  have C__law_pair := cal_of F__law_pair K__law_pair m__law_pair B__law_pair
  have K__law_some : FnOk l.prog w K mg base CX0 2 _ _ ["state", "names"] (sp__law_some l.prog w K) := ok__law_some (Z := Z) F__law_some C__law_take n_len n_list n_range
  have C__law_some := cal_of F__law_some K__law_some m__law_some B__law_some
  have K__law_same : FnOk l.prog w K mg base CX0 2 _ _ ["found", "due"] (sp__law_same K) := ok__law_same (Z := Z) F__law_same C__law_same0 n_all n_bool n_int n_isinstance n_len n_list n_str n_tuple n_zip
  have C__law_same := cal_of F__law_same K__law_same m__law_same B__law_same
  have K__law_turned : FnOk l.prog w K mg base CX0 2 _ _ ["state", "pairs"] (sp__law_turned l.prog w K) := ok__law_turned (Z := Z) F__law_turned C__law_take n_len n_range
  have C__law_turned := cal_of F__law_turned K__law_turned m__law_turned B__law_turned
  have K_is_names : FnOk l.prog w K mg base CX0 3 _ _ ["thing", "most"] (sp_is_names K) := ok_is_names (Z := Z) F_is_names C_is_name n_all n_isinstance n_len n_list n_set n_tuple
  have C_is_names : Cal l.prog w K mg base CX0 3 "is_names" ["thing", "most"] [] (sp_is_names K) := by
    obtain ⟨ds, r, B⟩ := F_is_names.binds1 (ps := ["thing", "most"]) 2 1 (by simp) rfl (fun T kV doc pm an cdv ct us its h1 h2 => by
      match us, its, h1, h2 with
      | [_, _], [_], _, _ => exact ⟨_, rfl, rfl⟩)
    cases r
    exact ⟨_, _, _, K_is_names, m_is_names, F_is_names.kp, B, .nil⟩
  have K_wanted_base : FnOk l.prog w K mg base CX0 3 _ _ ["thing"] (sp_wanted_base K Z) := ok_wanted_base (Z := Z) F_wanted_base C_is_base n_list
  have C_wanted_base := cal_of F_wanted_base K_wanted_base m_wanted_base B_wanted_base
  have K_rounds : FnOk l.prog w K mg base CX0 3 _ _ ["rules", "grounds"] (sp_rounds K Z) := ok_rounds (Z := Z) F_rounds C_next_heads
  have C_rounds := cal_of F_rounds K_rounds m_rounds B_rounds
  have K__law_names : FnOk l.prog w K mg base CX0 3 _ _ ["state", "used", "many"] (sp__law_names l.prog w K) := ok__law_names (Z := Z) F__law_names C__law_name n_range
  have C__law_names := cal_of F__law_names K__law_names m__law_names B__law_names
  have K__law_pairs : FnOk l.prog w K mg base CX0 3 _ _ ["state", "names", "most"] (sp__law_pairs l.prog w K) := ok__law_pairs (Z := Z) F__law_pairs C__law_pair C__law_take n_range
  have C__law_pairs := cal_of F__law_pairs K__law_pairs m__law_pairs B__law_pairs
  have K_wanted_names : FnOk l.prog w K mg base CX0 4 _ _ ["thing", "most"] (sp_wanted_names K) := ok_wanted_names (Z := Z) F_wanted_names C_is_names n_tuple
  have C_wanted_names : Cal l.prog w K mg base CX0 4 "wanted_names" ["thing", "most"] [] (sp_wanted_names K) := by
    obtain ⟨ds, r, B⟩ := F_wanted_names.binds1 (ps := ["thing", "most"]) 2 1 (by simp) rfl (fun T kV doc pm an cdv ct us its h1 h2 => by
      match us, its, h1, h2 with
      | [_, _], [_], _, _ => exact ⟨_, rfl, rfl⟩)
    cases r
    exact ⟨_, _, _, K_wanted_names, m_wanted_names, F_wanted_names.kp, B, .nil⟩
  have K_Rule___init__ : FnOk l.prog w K mg base (L2.CX l.prog w) 4 _ _ ["self", "head", "body", "unless"] (sp_Rule___init__ K Z) := ok_Rule___init__ (Z := Z) F_Rule___init__ C_is_name C_is_names X_BadRule n_tuple m_MOST_BODY m_MOST_UNLESS R
  have M_Rule_2 : Ctor l.prog w K mg base (L2.CX l.prog w) 4 "Rule" Z.Rule 2 [] (g_Rule_2 Z) (sp_Rule___init__ K Z) := by
    obtain ⟨its, mv, B⟩ := F_Rule___init__.kbinds (ps := ["self", "head", "body", "unless"]) 3 [] [("unless", .ref Z.dU)] (fun {_} vs ds mz zs => vs ++ mz) (by simp) (by simp) (fun q h => h) (@fun vs ds mz zs us its mv ws r1 r2 r3 r4 => r1.append r3) (fun T D doc pm an cdv ct us its mv ws h1 h2 h3 h4 => by
      match us, its, mv, ws, h1, h2, h3, h4 with
      | [_, _, _], [_], [_], [], _, _, _, _ => exact ⟨_, rfl, ⟨_, _, _, _, _, _, rfl, rfl, rfl⟩⟩)
    exact ⟨_, _, _, _, ⟨mk, a_Rule___init__, i_Rule___init__, kc⟩, K_Rule___init__, cl_Rule, B⟩
  have K_wanted_plain : FnOk l.prog w K mg base CX0 4 _ _ ["thing"] (sp_wanted_plain K Z) := ok_wanted_plain (Z := Z) F_wanted_plain C_wanted_base n_any R
  have C_wanted_plain := cal_of F_wanted_plain K_wanted_plain m_wanted_plain B_wanted_plain
  have K_wanted_beside : FnOk l.prog w K mg base CX0 5 _ _ ["thing", "rules", "most"] (sp_wanted_beside K Z) := ok_wanted_beside (Z := Z) F_wanted_beside C_names_in C_wanted_names n_len m_MOST_NAMES
  have C_wanted_beside : Cal l.prog w K mg base CX0 5 "wanted_beside" ["thing", "rules", "most"] [] (sp_wanted_beside K Z) := by
    obtain ⟨ds, r, B⟩ := F_wanted_beside.binds1 (ps := ["thing", "rules", "most"]) 3 1 (by simp) rfl (fun T kV doc pm an cdv ct us its h1 h2 => by
      match us, its, h1, h2 with
      | [_, _, _], [_], _, _ => exact ⟨_, rfl, rfl⟩)
    cases r
    exact ⟨_, _, _, K_wanted_beside, m_wanted_beside, F_wanted_beside.kp, B, .nil⟩
  have C_wanted_beside_2 : Cal l.prog w K mg base CX0 5 "wanted_beside" ["thing", "rules", "most"] [.int 24] (sp_wanted_beside K Z) := by
    obtain ⟨ds, r, B⟩ := F_wanted_beside.binds1 (ps := ["thing", "rules", "most"]) 2 0 (by simp) rfl (fun T kV doc pm an cdv ct us its h1 h2 => by
      match us, its, h1, h2 with
      | [_, _], [_], _, _ => exact ⟨_, rfl, rfl⟩)
    exact ⟨_, _, _, K_wanted_beside, m_wanted_beside, F_wanted_beside.kp, B, r⟩
  have K_wanted : FnOk l.prog w K mg base CX0 6 _ _ ["rules", "grounds"] (sp_wanted K Z) := ok_wanted (Z := Z) F_wanted C_wanted_beside_2 C_wanted_plain
  have C_wanted := cal_of F_wanted K_wanted m_wanted B_wanted
  have K_held : FnOk l.prog w K mg base CX0 7 _ _ ["rules", "grounds"] (sp_held K Z) := ok_held (Z := Z) F_held C_rounds C_wanted n_sorted
  have C_held := cal_of F_held K_held m_held B_held
  have C_held_k_grounds_rules := calk_of F_held K_held m_held (kbindsR F_held (ks := ["grounds", "rules"]) fun _ _ _ _ _ _ us ws hl => match us, ws, hl with | [], [_, _], _ => rfl | [_], [_], _ => rfl | [_, _], [], _ => rfl)
  have K_clash : FnOk l.prog w K mg base CX0 7 _ _ ["rules", "grounds"] (sp_clash K Z) := ok_clash (Z := Z) F_clash C_first_never C_rounds C_wanted
  have C_clash := cal_of F_clash K_clash m_clash B_clash
  have C_clash_k_rules_grounds := calk_of F_clash K_clash m_clash (kbindsA F_clash (ks := ["rules", "grounds"]) (by simp) fun _ _ _ _ _ _ ws hl => match ws, hl with | [_, _], _ => rfl)
  have K__law_right : FnOk l.prog w K mg base CX0 8 _ _ ["pairs", "some"] (sp__law_right K Z) := ok__law_right (Z := Z) F__law_right C__law_clash C__law_held C__law_same C_clash C_held C_clash_k_rules_grounds C_held_k_grounds_rules M_Rule_2 T_Rule_told n_list n_sorted n_tuple R hU
  have C__law_right := cal_of F__law_right K__law_right m__law_right B__law_right
  have fin : FnOk l.prog w K mg base CX0 9 _ _ ["script"] (sp_law l.prog w K Z) := ok_law (Z := Z) F_law C__law_begun C__law_kept C__law_names C__law_pairs C__law_right C__law_some C__law_take C__law_turned C_clash M_Rule_2 n_bool n_isinstance R hU
  exact fin
end K11
open PySem PySem.W PyProof.Rows
set_option maxHeartbeats 0 in
theorem PySem.Challenge.cw_groundlots_k11_what_is_held_holds : PySem.Challenge.rw_groundlots_k11_what_is_held.Holds := by
  w_on; o_law; k_head; (case hw => w_witness2)
  k_fill
  refine L2.walk_of (l := PySem.Challenge.rw_groundlots_k11_what_is_held) (n := 63) (k := 9) (x := "script") (CX := fun _ => L2.CX0) (sp := fun w => K11.sp_law (PySem.Challenge.rw_groundlots_k11_what_is_held).prog w _ K11.Z0) rfl (by decide) rfl ⟨rfl, by decide, by decide⟩ (fun w h Y => PySem.W.kIn_of Y) ?F (fun _ _ a ns hl hO hS => ⟨a, ns, rfl, Gx.SqF.of hO hS, hl, fun _ => rfl⟩) (fun _ _ _ _ _ h => h)
  case F =>
    intro w mg fa h KX G hmg
    refine' K11.all_mk KX G hmg ?a_BadRule ?a_Rule ?a_is_small_letter ?l_is_small_letter ?c_is_small_letter ?k_is_small_letter ?a_is_name ?l_is_name ?c_is_name ?k_is_name ?a_is_names ?l_is_names ?c_is_names ?k_is_names ?lT_is_names ?a_wanted_names ?l_wanted_names ?c_wanted_names ?k_wanted_names ?lT_wanted_names ?a_Rule___init__ ?i_Rule___init__ ?l_Rule___init__ ?c_Rule___init__ ?k_Rule___init__ ?lT_Rule___init__ ?nD_Rule___init___unless ?a_Rule_told ?i_Rule_told ?l_Rule_told ?c_Rule_told ?k_Rule_told ?a_names_in ?l_names_in ?c_names_in ?k_names_in ?lT_names_in ?a_is_base ?l_is_base ?c_is_base ?k_is_base ?a_wanted_base ?l_wanted_base ?c_wanted_base ?k_wanted_base ?a_wanted_plain ?l_wanted_plain ?c_wanted_plain ?k_wanted_plain ?a_wanted_beside ?l_wanted_beside ?c_wanted_beside ?k_wanted_beside ?lT_wanted_beside ?a_wanted ?l_wanted ?c_wanted ?k_wanted ?a_has_all ?l_has_all ?c_has_all ?k_has_all ?a_next_heads ?l_next_heads ?c_next_heads ?k_next_heads ?a_rounds ?l_rounds ?c_rounds ?k_rounds ?a_first_never ?l_first_never ?c_first_never ?k_first_never ?a_held ?l_held ?c_held ?k_held ?a_clash ?l_clash ?c_clash ?k_clash ?a__law_begun ?l__law_begun ?c__law_begun ?k__law_begun ?a__law_take ?l__law_take ?c__law_take ?k__law_take ?a__law_kept ?l__law_kept ?c__law_kept ?k__law_kept ?a__law_name ?l__law_name ?c__law_name ?k__law_name ?a__law_names ?l__law_names ?c__law_names ?k__law_names ?a__law_pair ?l__law_pair ?c__law_pair ?k__law_pair ?a__law_pairs ?l__law_pairs ?c__law_pairs ?k__law_pairs ?a__law_some ?l__law_some ?c__law_some ?k__law_some ?a__law_held ?l__law_held ?c__law_held ?k__law_held ?a__law_same0 ?l__law_same0 ?c__law_same0 ?k__law_same0 ?a__law_same ?l__law_same ?c__law_same ?k__law_same ?a__law_clash ?l__law_clash ?c__law_clash ?k__law_clash ?a__law_turned ?l__law_turned ?c__law_turned ?k__law_turned ?a__law_right ?l__law_right ?c__law_right ?k__law_right ?a_law ?l_law ?c_law ?k_law ?l_dB ?l_dU ?l_dM ?z_all ?z_any ?z_bool ?z_enumerate ?z_int ?z_isinstance ?z_len ?z_list ?z_min ?z_range ?z_set ?z_sorted ?z_str ?z_tuple ?z_zip ?a_LONGEST_NAME ?a_TAKEN_WORDS ?l_TAKEN_WORDS ?a_MOST_BODY ?a_MOST_UNLESS ?a_MOST_RULES ?a_MOST_NAMES ?pg ?hdi ?po ?sa ?mk ?kc ?no_head ?no_body ?no_unless ?r_ha ?r_hn ?r_ht ?r_hm ?s_r_no_str ?s_r_no_tuple ?s_r_no_list ?s_r_o_NoneType ?ic_c_Rule ?ty_c_Rule ?s_r_o_bool ?s_r_o_int ?s_r_o_str ?s_r_o_list ?s_r_o_tuple ?s_r_o_dict ?r_f_NoneType ?r_f_bool ?r_f_int ?r_f_str ?r_f_list ?r_f_tuple ?r_f_dict ?r_f1 ?x_BadRule ?xk_BadRule ?xb_BadRule ?xt_BadRule
    (case a_BadRule => k_is)
    (case a_Rule => k_is)
    (case a_is_small_letter => k_is)
    (case l_is_small_letter => k_is)
    (case c_is_small_letter => k_is)
    (case k_is_small_letter => k_is)
    (case a_is_name => k_is)
    (case l_is_name => k_is)
    (case c_is_name => k_is)
    (case k_is_name => k_is)
    (case a_is_names => k_is)
    (case l_is_names => k_is)
    (case c_is_names => k_is)
    (case k_is_names => k_is)
    (case lT_is_names => k_is)
    (case a_wanted_names => k_is)
    (case l_wanted_names => k_is)
    (case c_wanted_names => k_is)
    (case k_wanted_names => k_is)
    (case lT_wanted_names => k_is)
    (case a_Rule___init__ => k_is)
    (case i_Rule___init__ => k_is)
    (case l_Rule___init__ => k_is)
    (case c_Rule___init__ => k_is)
    (case k_Rule___init__ => k_is)
    (case lT_Rule___init__ => k_is)
    (case nD_Rule___init___unless => k_is)
    (case a_Rule_told => k_is)
    (case i_Rule_told => k_is)
    (case l_Rule_told => k_is)
    (case c_Rule_told => k_is)
    (case k_Rule_told => k_is)
    (case a_names_in => k_is)
    (case l_names_in => k_is)
    (case c_names_in => k_is)
    (case k_names_in => k_is)
    (case lT_names_in => k_is)
    (case a_is_base => k_is)
    (case l_is_base => k_is)
    (case c_is_base => k_is)
    (case k_is_base => k_is)
    (case a_wanted_base => k_is)
    (case l_wanted_base => k_is)
    (case c_wanted_base => k_is)
    (case k_wanted_base => k_is)
    (case a_wanted_plain => k_is)
    (case l_wanted_plain => k_is)
    (case c_wanted_plain => k_is)
    (case k_wanted_plain => k_is)
    (case a_wanted_beside => k_is)
    (case l_wanted_beside => k_is)
    (case c_wanted_beside => k_is)
    (case k_wanted_beside => k_is)
    (case lT_wanted_beside => k_is)
    (case a_wanted => k_is)
    (case l_wanted => k_is)
    (case c_wanted => k_is)
    (case k_wanted => k_is)
    (case a_has_all => k_is)
    (case l_has_all => k_is)
    (case c_has_all => k_is)
    (case k_has_all => k_is)
    (case a_next_heads => k_is)
    (case l_next_heads => k_is)
    (case c_next_heads => k_is)
    (case k_next_heads => k_is)
    (case a_rounds => k_is)
    (case l_rounds => k_is)
    (case c_rounds => k_is)
    (case k_rounds => k_is)
    (case a_first_never => k_is)
    (case l_first_never => k_is)
    (case c_first_never => k_is)
    (case k_first_never => k_is)
    (case a_held => k_is)
    (case l_held => k_is)
    (case c_held => k_is)
    (case k_held => k_is)
    (case a_clash => k_is)
    (case l_clash => k_is)
    (case c_clash => k_is)
    (case k_clash => k_is)
    (case a__law_begun => k_is)
    (case l__law_begun => k_is)
    (case c__law_begun => k_is)
    (case k__law_begun => k_is)
    (case a__law_take => k_is)
    (case l__law_take => k_is)
    (case c__law_take => k_is)
    (case k__law_take => k_is)
    (case a__law_kept => k_is)
    (case l__law_kept => k_is)
    (case c__law_kept => k_is)
    (case k__law_kept => k_is)
    (case a__law_name => k_is)
    (case l__law_name => k_is)
    (case c__law_name => k_is)
    (case k__law_name => k_is)
    (case a__law_names => k_is)
    (case l__law_names => k_is)
    (case c__law_names => k_is)
    (case k__law_names => k_is)
    (case a__law_pair => k_is)
    (case l__law_pair => k_is)
    (case c__law_pair => k_is)
    (case k__law_pair => k_is)
    (case a__law_pairs => k_is)
    (case l__law_pairs => k_is)
    (case c__law_pairs => k_is)
    (case k__law_pairs => k_is)
    (case a__law_some => k_is)
    (case l__law_some => k_is)
    (case c__law_some => k_is)
    (case k__law_some => k_is)
    (case a__law_held => k_is)
    (case l__law_held => k_is)
    (case c__law_held => k_is)
    (case k__law_held => k_is)
    (case a__law_same0 => k_is)
    (case l__law_same0 => k_is)
    (case c__law_same0 => k_is)
    (case k__law_same0 => k_is)
    (case a__law_same => k_is)
    (case l__law_same => k_is)
    (case c__law_same => k_is)
    (case k__law_same => k_is)
    (case a__law_clash => k_is)
    (case l__law_clash => k_is)
    (case c__law_clash => k_is)
    (case k__law_clash => k_is)
    (case a__law_turned => k_is)
    (case l__law_turned => k_is)
    (case c__law_turned => k_is)
    (case k__law_turned => k_is)
    (case a__law_right => k_is)
    (case l__law_right => k_is)
    (case c__law_right => k_is)
    (case k__law_right => k_is)
    (case a_law => k_is)
    (case l_law => k_is)
    (case c_law => k_is)
    (case k_law => k_is)
    (case l_dB => k_is)
    (case l_dU => k_is)
    (case l_dM => k_is)
    (case z_all => k_is)
    (case z_any => k_is)
    (case z_bool => k_is)
    (case z_enumerate => k_is)
    (case z_int => k_is)
    (case z_isinstance => k_is)
    (case z_len => k_is)
    (case z_list => k_is)
    (case z_min => k_is)
    (case z_range => k_is)
    (case z_set => k_is)
    (case z_sorted => k_is)
    (case z_str => k_is)
    (case z_tuple => k_is)
    (case z_zip => k_is)
    (case a_LONGEST_NAME => k_is)
    (case a_TAKEN_WORDS => k_is)
    (case l_TAKEN_WORDS => k_is)
    (case a_MOST_BODY => k_is)
    (case a_MOST_UNLESS => k_is)
    (case a_MOST_RULES => k_is)
    (case a_MOST_NAMES => k_is)
    (case pg => k_is)
    (case hdi => k_is)
    (case po => k_is)
    (case sa => k_is)
    (case mk => k_is)
    (case kc => k_is)
    (case no_head => k_is)
    (case no_body => k_is)
    (case no_unless => k_is)
    (case r_ha => k_is)
    (case r_hn => k_is)
    (case r_ht => k_is)
    (case r_hm => k_is)
    (case s_r_no_str => first | rfl | k_is)
    (case s_r_no_tuple => first | rfl | k_is)
    (case s_r_no_list => first | rfl | k_is)
    (case s_r_o_NoneType => first | rfl | k_is)
    (case ic_c_Rule => k_is)
    (case ty_c_Rule => k_is)
    (case s_r_o_bool => first | rfl | k_is)
    (case s_r_o_int => first | rfl | k_is)
    (case s_r_o_str => first | rfl | k_is)
    (case s_r_o_list => first | rfl | k_is)
    (case s_r_o_tuple => first | rfl | k_is)
    (case s_r_o_dict => first | rfl | k_is)
    (case r_f_NoneType => k_is)
    (case r_f_bool => k_is)
    (case r_f_int => k_is)
    (case r_f_str => k_is)
    (case r_f_list => k_is)
    (case r_f_tuple => k_is)
    (case r_f_dict => k_is)
    (case r_f1 => k_is)
    (case x_BadRule => k_exc)
    (case xk_BadRule => k_is)
    (case xb_BadRule => k_is)
    (case xt_BadRule => k_is)
